"""What claims need: least_grounds, spare_commands and steady_orders."""

import unittest
from itertools import combinations, permutations
from random import Random

from addedgrounds.contexts import Context
from addedgrounds.errors import InvalidNumber, TooLarge, TooMany
from addedgrounds.needs import least_grounds, spare_commands, steady_orders
from addedgrounds.scripts import Script
from addedgrounds.steady import Claim, decide
from tests.claims import FACTS, LIMITS, claim, sized, steadier_parts
from tests.samples import P, Q

ROWS = "h: p\nk: (p > q)\nm: r\nn: p\no: (r > q)\nx: q"


def rows(many):
    return "\n".join(ROWS.split("\n")[:many])


def told(tested, script, places):
    """Whether a claim with some of its rows, in this order, and a script is steady."""
    own = tested.context.rows()
    context = Context([own[place] for place in places])
    return bool(decide(Claim(script, context, tested.goal, facts=tested.facts())))


class LeastGroundsTest(unittest.TestCase):
    def test_least_sets(self):
        self.assertEqual(least_grounds(claim("exact =", "h: p\nk: q\nm: p", "p")), [(0,), (2,)])
        self.assertEqual(
            least_grounds(claim("apply [(p > q)]\nexact =", rows(5), "q")), [(0, 1), (1, 3)])
        self.assertEqual(
            least_grounds(claim("first\nexact =\nelse\napply [(p > q)]\nexact =\nend", "x: q\nh: p\nk: (p > q)", "q")),
            [(0,), (1, 2)])
        self.assertEqual(least_grounds(claim("intro x\nexact x", rows(5), "(p > p)")), [()])
        self.assertEqual(least_grounds(claim("exact h", "h: p", "p")), [])
        self.assertEqual(least_grounds(claim("", "", "p")), [])
        self.assertEqual(least_grounds(claim=claim("intro x\nexact x", "", "(p > p)")), [()])

    def test_equal_rows_and_facts(self):
        self.assertEqual(least_grounds(claim("exact h:[p]", "h: p\nh: p", "p")), [(0,), (1,)])
        self.assertEqual(least_grounds(claim("recall f\nexact f", "h: p", "p", {"f": P})), [()])
        self.assertEqual(least_grounds(claim("recall f\nuse f:[(p > q)] [p] x\nexact [q]", "h: p\nk: q", "q", {
            "f": ("then", P, Q)})), [(0,)])

    def test_errors(self):
        for value in LIMITS:
            for many in (5, 6):
                with self.assertRaises(InvalidNumber) as caught:
                    least_grounds(claim("exact =", rows(many), "q"), limit=value)
                self.assertEqual(repr(caught.exception.value), repr(value))
        self.assertEqual(least_grounds(claim("apply [(p > q)]\nexact =", rows(5), "q"), limit=4000), [(0, 1), (1, 3)])
        with self.assertRaises(TooMany) as caught:
            least_grounds(claim("exact =", rows(6), "q"))
        self.assertEqual(caught.exception.most, 5)
        with self.assertRaises(TooMany) as caught:
            least_grounds(claim("exact =", rows(5), "q"), limit=1)
        self.assertEqual(caught.exception.most, 1)
        with self.assertRaises(TooLarge):
            least_grounds(Claim(Script.read("exact #1"), Context.read("h: p"), sized(201)))

    def test_random_claims(self):
        random = Random(20)
        some = 0
        for _ in range(150):
            commands, own, goal = steadier_parts(random)
            tested = Claim(Script(commands), Context(own), goal, facts=FACTS)
            try:
                steady = [places for size in range(len(own) + 1) for places in combinations(range(len(own)), size)
                          if told(tested, tested.script, places)]
            except TooMany:
                continue
            least = [places for places in steady if not any(set(less) < set(places) for less in steady)]
            self.assertEqual(least_grounds(tested), least)
            some += len(least) > 0
        self.assertGreater(some, 5)


class SpareCommandsTest(unittest.TestCase):
    def test_spare_commands(self):
        self.assertEqual(spare_commands(claim("try\nsplit\nend\nhave x p\nexact =\nexact =", "h: p", "p")), [0])
        self.assertEqual(spare_commands(claim("move [p]\nmove [p]\nexact =", "h: p", "p")), [0, 1])
        self.assertEqual(spare_commands(claim("exact =", "h: p", "p")), [])
        self.assertEqual(spare_commands(claim("", "h: p", "p")), [])
        self.assertEqual(spare_commands(claim("try\nmove [p]\nmove [p]\nend\nexact =", "h: p", "p")), [0])

    def test_claims_that_are_not_steady(self):
        self.assertEqual(spare_commands(claim("split\nexact =", "h: p", "p")), [0])
        self.assertEqual(spare_commands(claim=claim("exact h\nexact =", "h: p", "p")), [0])
        self.assertEqual(spare_commands(claim("split\nsplit\nexact =", "h: p", "p")), [])

    def test_errors(self):
        for value in LIMITS:
            for script in ("", "exact h", "exact ="):
                with self.assertRaises(InvalidNumber) as caught:
                    spare_commands(claim(script, "h: p", "p"), limit=value)
                self.assertEqual(repr(caught.exception.value), repr(value))
        # Without its command each claim has one node alone.
        self.assertEqual(spare_commands(claim("exact =", "h: p", "p"), limit=1), [])
        with self.assertRaises(TooMany) as caught:
            spare_commands(claim("exact h\nexact =", "h: p", "p"), limit=2)
        self.assertEqual(caught.exception.most, 2)
        with self.assertRaises(TooLarge):
            spare_commands(Claim(Script.read("exact #1\nsplit"), Context(), sized(201)))

    def test_random_claims(self):
        random = Random(21)
        some = 0
        for _ in range(150):
            commands, own, goal = steadier_parts(random)
            tested = Claim(Script(commands), Context(own), goal, facts=FACTS)
            try:
                expected = [at for at in range(len(commands)) if told(
                    tested, Script(commands[:at] + commands[at + 1:]), range(len(own)))]
                self.assertEqual(spare_commands(tested), expected)
            except TooMany:
                continue
            some += len(expected) > 0
        self.assertGreater(some, 10)


class SteadyOrdersTest(unittest.TestCase):
    def test_orders(self):
        self.assertEqual(list(steady_orders(claim("exact =", "h: p\nk: q", "p"))), [(0, 1), (1, 0)])
        self.assertEqual(list(steady_orders(claim("exact h", "h: p\nh: q", "p"))), [])
        self.assertEqual(list(steady_orders(claim("intro x\nexact x", "", "(p > p)"))), [()])
        self.assertEqual(list(steady_orders(claim=claim("exact h", "h: p", "p"))), [])

    def test_orders_that_count(self):
        # The newest row with p goes, and h has to stay.
        script = "drop [p]\nexact h:[p]"
        self.assertEqual(list(steady_orders(claim(script, "h: p\nk: p", "p"))), [(0, 1)])
        self.assertEqual(list(steady_orders(claim(script, "k: p\nh: p", "p"))), [(1, 0)])
        self.assertEqual(
            list(steady_orders(claim(script, "k: p\nm: q\nh: p", "p"))), [(1, 2, 0), (2, 0, 1), (2, 1, 0)])
        self.assertEqual(list(steady_orders(claim(script, "h: p\nh: p", "p"))), [(0, 1), (1, 0)])
        orders = list(steady_orders(claim("drop =\nexact =", "h: p\nk: q\nm: p", "p")))
        self.assertEqual(orders, list(permutations(range(3))))

    def test_items_one_by_one(self):
        tested = claim("exact =", "h: p\nk: q", "p")
        orders = steady_orders(tested)
        self.assertEqual(next(orders), (0, 1))
        self.assertEqual(next(orders), (1, 0))
        self.assertRaises(StopIteration, next, orders)
        self.assertEqual(len(list(steady_orders(tested))), 2)

    def test_errors_come_with_the_first_item(self):
        for value in LIMITS:
            for many in (4, 5):
                orders = steady_orders(claim("exact =", rows(many), "q"), limit=value)
                with self.assertRaises(InvalidNumber) as caught:
                    next(orders)
                self.assertEqual(repr(caught.exception.value), repr(value))
        orders = steady_orders(claim("exact =", rows(5), "q"))
        with self.assertRaises(TooMany) as caught:
            next(orders)
        self.assertEqual(caught.exception.most, 4)
        self.assertEqual(len(list(steady_orders(claim("intro x\nexact x", rows(4), "(p > p)")))), 24)
        orders = steady_orders(claim("exact =", rows(4), "q"), limit=1)
        with self.assertRaises(TooMany) as caught:
            next(orders)
        self.assertEqual(caught.exception.most, 1)
        self.assertRaises(TooLarge, next, steady_orders(Claim(Script.read("exact #1"), Context(), sized(201))))

    def test_errors_of_later_orders_come_with_the_first_item(self):
        tested = claim("exact =", "h: p\nk: q\nm: r", "p")
        sizes = {}
        for order in permutations(range(3)):
            own = tested.context.rows()
            other = Claim(tested.script, Context([own[at] for at in order]), P)
            sizes[order] = next(limit for limit in range(1, 100) if self.decides(other, limit))
        self.assertLess(sizes[(0, 1, 2)], 100)
        for limit in range(1, max(sizes.values())):
            self.assertRaises(TooMany, next, steady_orders(tested, limit=limit))
        self.assertEqual(len(list(steady_orders(tested, limit=max(sizes.values())))), 6)
        self.assertGreater(len(set(sizes.values())), 1)

    def decides(self, tested, limit):
        try:
            return decide(tested, limit=limit) is not None
        except TooMany:
            return False

    def test_random_claims(self):
        random = Random(22)
        some = 0
        for _ in range(100):
            commands, own, goal = steadier_parts(random)
            tested = Claim(Script(commands), Context(own), goal, facts=FACTS)
            try:
                expected = [order for order in permutations(range(len(own))) if told(tested, tested.script, order)]
            except TooMany:
                continue
            self.assertEqual(list(steady_orders(tested)), expected)
            some += len(expected) > 0
        self.assertGreater(some, 5)


if __name__ == "__main__":
    unittest.main()
