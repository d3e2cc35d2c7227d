"""Addedgrounds: scripts that are judged in all wider contexts."""
