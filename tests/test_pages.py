"""Point 20: pages, the texts of shelves."""

import unittest
from random import Random

from addedgrounds.contexts import Context
from addedgrounds.errors import InvalidPage
from addedgrounds.pages import read_page, write_page
from addedgrounds.scripts import Script
from addedgrounds.shelf import Shelf
from tests import model
from tests.claims import FACTS, random_parts
from tests.samples import OTHER_VALUES, P, Q, nested

PAGE = """fact one
given h: p
given k: (p > q)
goal q
apply >
exact =
done
fact two
goal (p > p)
try
recall one
first
intro x
else
split
end
end
done
"""
LINES = PAGE.split("\n")[:-1]
ENTRY = ["goal p", "done"]


def page(*lines):
    return "".join(line + "\n" for line in lines)


class WriteTest(unittest.TestCase):
    def test_pages(self):
        shelf = Shelf()
        self.assertEqual(write_page(shelf), "")
        shelf.apply(
            ("fact", "one", Context.read("h: p\nk: (p > q)"), Q, Script.read("apply >\nexact =")),
            ("fact", "two", Context(), ("then", P, P), Script.read("\n".join(LINES[9:17]))))
        self.assertEqual(write_page(shelf=shelf), PAGE)
        shelf.apply(("script", "one", Script()))
        self.assertEqual(write_page(shelf), page(*LINES[:4], *LINES[6:]))

    def test_order(self):
        shelf = Shelf()
        for name in ("b", "a"):
            shelf.apply(("fact", name, Context(), P, Script()))
        shelf.apply(("script", "b", Script.read("recall a")))
        self.assertEqual(write_page(shelf), page("fact b", "goal p", "recall a", "done", "fact a", "goal p", "done"))


class ReadTest(unittest.TestCase):
    def check(self, line, *lines):
        with self.assertRaises(InvalidPage) as caught:
            read_page(page(*lines))
        self.assertEqual(caught.exception.line, line)

    def test_pages(self):
        shelf = read_page(text=PAGE)
        self.assertEqual((shelf.names(), shelf.limit, shelf.history(), shelf.kept()), (["one", "two"], 20, (0, 0), []))
        self.assertEqual(shelf.computed, 0)
        self.assertEqual(write_page(shelf), PAGE)
        self.assertEqual(shelf.claim_of("one").context, Context.read("h: p\nk: (p > q)"))
        self.assertEqual(shelf.rests("two"), ["one"])
        shelf.apply(("drop", "two"))
        self.assertEqual(shelf.history(), (1, 0))
        shelf.undo()
        self.assertEqual(write_page(shelf), PAGE)

    def test_the_empty_page(self):
        self.assertEqual(read_page(""), Shelf())
        self.assertEqual(read_page("").limit, 20)

    def test_entries_ahead_of_those_that_they_recall(self):
        text = page("fact a", "goal p", "recall c", "done", "fact b", "goal p", "recall a", "done", "fact c", *ENTRY)
        shelf = read_page(text)
        self.assertEqual((shelf.names(), shelf.rests("b")), (["a", "b", "c"], ["a", "c"]))
        self.assertEqual(write_page(shelf), text)

    def test_values_that_are_no_strings(self):
        for value in [value for value in OTHER_VALUES if not isinstance(value, str)] + [b"", [PAGE], (PAGE,)]:
            with self.assertRaises(InvalidPage) as caught:
                read_page(value)
            self.assertEqual(caught.exception.line, 0)

    def test_lines_that_are_not_due(self):
        wrong = ["", "x", "fact", "fact ", "fact One", "fact one two", " fact z", "given", "given h:p", "goal", "goal ",
                 "goal p ", "goal P", "done ", "Done", "end", "else", "split ", "intro", "given h: p  "]
        for at in range(len(LINES) + 1):
            for line in wrong:
                if line == "else" and at in (11, 12, 13) or line == "end" and at in range(10, 18) \
                        or line == "end" and at in (9,):
                    continue
                self.check(at, *LINES[:at], line, *LINES[at:])

    def test_lines_that_lack(self):
        for at in range(1, len(LINES)):
            if at != 7:
                self.check(at, *LINES[:at])
        self.assertEqual(read_page(page(*LINES[:7])).names(), ["one"])
        self.check(1, "fact a")
        self.check(2, "fact a", "goal p")
        self.check(2, "fact a", "given h: p")
        self.check(3, "fact a", "goal p", "exact =")

    def test_lines_in_wrong_places(self):
        self.check(1, "fact a", "fact b", *ENTRY)
        self.check(1, "fact a", "done")
        self.check(1, "fact a", "exact =", *ENTRY)
        self.check(2, "fact a", "goal p", "goal p", "done")
        self.check(2, "fact a", "goal p", "given h: p", "done")
        self.check(2, "fact a", "goal p", "fact b", "goal p", "done")
        self.check(3, "fact a", *ENTRY, "done")
        self.check(3, "fact a", *ENTRY, "", "fact b", *ENTRY)
        self.check(3, "fact a", *ENTRY, "goal p", "done")
        self.check(0, "done")
        self.check(0, "", "fact a", *ENTRY)
        self.check(0, "")

    def test_goals_and_rows(self):
        self.check(1, "fact a", "goal ?a", "done")
        self.check(1, "fact a", "given h: ?a", *ENTRY)
        shape = "p"
        for _ in range(9):
            shape = f"({shape} > q)"
        self.assertEqual(read_page(page("fact a", "goal " + shape, "done")).claim_of("a").goal, nested(10))
        self.check(1, "fact a", f"goal ({shape} > q)", "done")
        self.check(1, "fact a", f"given h: ({shape} > q)", *ENTRY)

    def test_names_of_earlier_entries(self):
        self.check(3, "fact a", *ENTRY, "fact a", *ENTRY)
        self.check(6, "fact a", *ENTRY, "fact b", *ENTRY, "fact a", "x")

    def test_many_entries(self):
        lines = []
        for letter in "abcdefghijklmnopqrst":
            lines += ["fact x" + letter, *ENTRY]
        self.assertEqual(len(read_page(page(*lines))), 20)
        self.check(60, *lines, "fact y", *ENTRY)
        self.check(60, *lines, "fact xa", *ENTRY)
        self.check(60, *lines, "fact y")

    def test_many_rows(self):
        rows = ["given h: p"] * 8
        self.assertEqual(len(read_page(page("fact a", *rows, *ENTRY)).claim_of("a").context), 8)
        self.check(9, "fact a", *rows, "given h: p", *ENTRY)
        self.check(9, "fact a", *rows, "given h: p", "given")
        self.check(9, "fact a", *rows, "given h:", "x")

    def test_wrong_scripts(self):
        self.check(3, "fact a", "goal p", "exact =", "x", "split", "done")
        self.check(2, "fact a", "goal p", "end", "done")
        self.check(2, "fact a", "goal p", "else", "done")
        self.check(4, "fact a", "goal p", "try", "split", "else", "end", "done")
        self.check(4, "fact a", "goal p", "first", "split", "end", "done")
        self.check(5, "fact a", "goal p", "first", "split", "else", "else", "end", "done")
        self.check(5, "fact a", "goal p", "try", "try", "try", "try", "end", "end", "end", "end", "done")
        self.check(2, "fact a", "goal p", "", "done")
        self.check(3, "fact a", "goal p", "split", "", "done")
        # A line of a script that looks like one of a page is wrong, too.
        self.check(3, "fact a", "goal p", "split", "fact b", *ENTRY)
        self.check(2, "fact a", "goal p", "recall", "done")

    def test_scripts_that_lack_an_end(self):
        self.check(4, "fact a", "goal p", "try", "split", "done", "fact b", *ENTRY)
        self.check(3, "fact a", "goal p", "try", "done")
        self.check(3, "fact a", "goal p", "first", "done")
        self.check(4, "fact a", "goal p", "first", "else", "done")
        self.check(6, "fact a", "goal p", "try", "try", "split", "end", "done", "end", "done")
        self.check(4, "fact a", "goal p", "try", "split")
        self.check(3, "fact a", "goal p", "try")

    def test_scripts_with_many_commands(self):
        some = ["split"] * 16
        self.assertEqual(len(read_page(page("fact a", "goal p", *some, "done")).claim_of("a").script), 16)
        self.check(19, "fact a", "goal p", *some, "split", "done", "x")
        self.check(20, "fact a", "goal p", "try", *some, "end", "done")
        self.check(19, "fact a", "goal p", *some, "split")
        self.check(19, "fact a", "goal p", *some, "split", "x", "done")
        self.check(20, "fact a", "goal p", "try", *some, "split", "done")

    def test_a_last_line_without_a_line_feed(self):
        for at in range(1, len(LINES) + 1):
            with self.assertRaises(InvalidPage) as caught:
                read_page(page(*LINES[:at])[:-1])
            self.assertEqual(caught.exception.line, at - 1)
        for text, line in (("fact", 0), (page("x") + "fact a", 0), (page("fact a", "goal p", "x") + "done", 2),
                           (page("fact a", "goal p", "try") + "done", 3), (page("fact a", "goal p", "try") + "end", 3),
                           (page("fact a", "goal p", *["split"] * 17) + "done", 19),
                           (page("fact a", "goal p", "recall none") + "done", 3), (" ", 0),
                           (page("fact a", *ENTRY) + "fact b", 3)):
            with self.assertRaises(InvalidPage) as caught:
                read_page(text)
            self.assertEqual(caught.exception.line, line)

    def test_unknown_names_and_entries_that_rest_on_themselves(self):
        self.check(0, "fact a", "goal p", "recall b", "done")
        self.check(0, "fact a", "goal p", "recall a", "done")
        self.check(0, "fact a", "goal p", "try", "recall a", "end", "done")
        self.check(3, "fact a", *ENTRY, "fact b", "goal p", "recall a", "recall c", "done")
        two = ["fact a", "goal p", "recall b", "done", "fact b", "goal p", "recall a", "done"]
        self.check(0, *two)
        # The first entry rests on a circle, but not on itself.
        self.check(4, "fact x", "goal p", "recall a", "done", *two)
        self.check(4, "fact x", "goal p", "recall a", "done", "fact a", "goal p", "recall b", "done", "fact b", "goal p",
                   "recall a", "done")
        # A wrong line goes ahead of all these.
        self.check(12, "fact a", "goal p", "recall a", "done", "fact b", "given h: p", "given k: q", "goal p",
                   "recall none", "done", "fact c", "goal p", "x", "done")

    def test_texts_that_are_changed_in_one_place(self):
        known = 0
        for at in range(len(PAGE)):
            for text in (PAGE[:at] + PAGE[at + 1:], PAGE[:at] + "x" + PAGE[at + 1:], PAGE[:at] + "\n" + PAGE[at:]):
                try:
                    shelf = read_page(text)
                except InvalidPage as wrong:
                    self.assertTrue(0 <= wrong.line <= len(LINES) + 1)
                else:
                    self.assertEqual(write_page(shelf), text)
                    known += 1
        self.assertGreater(known, 5)

    def test_random_pages(self):
        random = Random(20)
        for _ in range(100):
            shelf = Shelf()
            for name in random.sample(["a", "b", "c", "fa", "fb"], random.randint(0, 5)):
                commands, rows, goal = random_parts(random, 10)
                shelf.apply(("fact", name, Context(rows), goal, Script()))
                known = [("recall", other) for other in shelf.names() if other != name and other not in FACTS]
                commands = tuple(known) + tuple(
                    command for path, command in model.flat(commands)
                    if len(path) == 1 and "recall" not in repr(command))
                shelf.apply(("script", name, Script(commands)))
            other = read_page(write_page(shelf))
            self.assertEqual(other, shelf)
            self.assertEqual(write_page(other), write_page(shelf))


if __name__ == "__main__":
    unittest.main()
