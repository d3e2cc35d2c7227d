"""The class Session: runs that are made step by step."""

import unittest
from random import Random

from addedgrounds.contexts import Context
from addedgrounds.errors import InvalidCommand, InvalidFormula, InvalidText, NothingLeft, Refused, TooMany
from addedgrounds.formulas import read_formula
from addedgrounds.scripts import Script
from addedgrounds.sessions import Open, Session, run
from addedgrounds.terms import is_derivation
from tests import model
from tests.samples import OTHER_VALUES, P, Q, R, hole, nested, part

CONTEXT = Context.read("h: p\nk: (p > q)")
GOAL = read_formula("(p & q)")
FACTS = {"fact": ("then", Q, R)}
SPLIT, LEFT, RIGHT = ("split",), ("left",), ("right",)
EXACT = ("exact", ("name", "h"))
APPLY = ("apply", ("toward",))


def state(session):
    """All that a session tells of itself."""
    return (session.context, session.goal, session.many, session.busy, session.history(), session.commands(),
            session.goals(), session.derivation(), len(session), repr(session))


class SessionsTest(unittest.TestCase):
    def new(self):
        return Session(CONTEXT, GOAL, facts=FACTS)

    def refused(self, session, path, reason, *commands):
        before = state(session)
        with self.assertRaises(Refused) as caught:
            session.do(*commands)
        self.assertEqual((caught.exception.path, caught.exception.reason), (path, reason))
        self.assertEqual(state(session), before)

    def test_a_new_session(self):
        session = self.new()
        self.assertEqual(session.context, CONTEXT)
        self.assertEqual(session.goal, GOAL)
        self.assertEqual(session.goals(), [(tuple(CONTEXT.rows()), GOAL)])
        self.assertEqual((session.many, session.busy, session.history(), session.commands()), (1, False, (0, 0), []))
        self.assertIs(session.busy, False)
        self.assertIsNone(session.derivation())
        self.assertEqual((len(session), repr(session)), (0, "Session(1 goals)"))
        self.assertEqual(Session(context=Context(), goal=P).goals(), [((), P)])

    def test_goals_that_are_no_formulas(self):
        for value in OTHER_VALUES + [hole("a"), part(0), nested(11), "p", Context(), {}]:
            with self.assertRaises(InvalidFormula) as caught:
                Session(CONTEXT, value)
            self.assertEqual(caught.exception.value, value)
        self.assertEqual(Session(CONTEXT, nested(10)).many, 1)

    def test_steps(self):
        session = self.new()
        self.assertIsNone(session.do(SPLIT))
        rows = tuple(CONTEXT.rows())
        self.assertEqual(session.goals(), [(rows, P), (rows, Q)])
        self.assertEqual((session.many, len(session), repr(session)), (2, 1, "Session(2 goals)"))
        session.do(EXACT)
        self.assertEqual((session.goals(), session.many, session.history()), ([(rows, Q)], 1, (2, 0)))
        session.do(APPLY, EXACT)
        self.assertEqual((session.goals(), session.many, session.history()), ([], 0, (3, 0)))
        self.assertEqual(repr(session), "Session(0 goals)")
        self.assertEqual(session.commands(), [SPLIT, EXACT, APPLY, EXACT])
        self.assertIs(is_derivation(session.derivation(), CONTEXT, GOAL), True)
        self.assertEqual(session.derivation(), run(Script([SPLIT, EXACT, APPLY, EXACT]), CONTEXT, GOAL).term)
        self.assertEqual((session.context, session.goal), (CONTEXT, GOAL))

    def test_a_step_without_commands(self):
        session = self.new()
        self.assertIsNone(session.do())
        self.assertEqual((session.history(), len(session), session.commands()), ((1, 0), 1, []))
        session.do(SPLIT)
        session.undo()
        session.do()
        self.assertEqual((session.history(), session.many), ((2, 0), 1))
        session.undo()
        session.undo()
        self.assertEqual(session.history(), (0, 2))

    def test_a_step_is_done_whole_or_not_at_all(self):
        session = self.new()
        self.refused(session, (2,), "shape", SPLIT, EXACT, LEFT)
        self.refused(session, (0,), "other", EXACT)
        self.refused(session, (1,), "none", SPLIT, ("drop", ("name", "x")))
        self.refused(session, (0, 0, 1), "fact", ("all", [SPLIT, ("recall", "none")]))
        self.refused(session, (1, 1, 0), "shape", SPLIT, ("first", [RIGHT], [LEFT]))
        session.do(SPLIT, EXACT, APPLY, EXACT)
        self.refused(session, (1,), "empty", ("try", [SPLIT]), SPLIT)
        self.assertEqual(session.history(), (1, 0))
        self.refused(Session(Context(), P), (11,), "many", *[("have", "x", Q)] * 14)

    def test_refused_steps_keep_steps_that_were_undone(self):
        session = self.new()
        session.do(SPLIT)
        session.do(EXACT)
        session.do(APPLY, EXACT)
        shown = session.derivation()
        session.undo()
        session.undo()
        session.undo()
        self.refused(session, (3,), "shape", ("absurd",), ("have", "x", P), EXACT, SPLIT)
        self.refused(session, (1,), "none", SPLIT, ("drop", ("name", "x")))
        session.redo()
        self.refused(session, (1,), "none", ("have", "x", P), APPLY)
        session.redo()
        session.redo()
        self.assertEqual(session.derivation(), shown)

    def test_wrong_commands(self):
        session = self.new()
        session.do(SPLIT)
        session.undo()
        before = state(session)
        for value in OTHER_VALUES + ["split", ["split"], ("repeat", 4, ()), ("intro", "H")]:
            if value == SPLIT:
                continue
            for commands, path in (((value,), (0,)), ((SPLIT, ("try", (SPLIT, value))), (1, 0, 1)), ((LEFT, value), (1,))):
                with self.assertRaises(InvalidCommand) as caught:
                    session.do(*commands)
                self.assertEqual(caught.exception.path, path)
                self.assertEqual(state(session), before)
        with self.assertRaises(InvalidCommand) as caught:
            session.do(("try", [("try", [("try", [SPLIT])])]))
        self.assertEqual(caught.exception.path, (0, 0, 0, 0, 0, 0, 0))
        with self.assertRaises(InvalidCommand):
            session.do(*[LEFT] * 17, None)

    def test_too_many_commands(self):
        session = self.new()
        before = state(session)
        for commands in ([LEFT] * 17, [("try", [SPLIT] * 16)], [("all", [])] * 17):
            with self.assertRaises(TooMany) as caught:
                session.do(*commands)
            self.assertEqual(caught.exception.most, 16)
            self.assertEqual(state(session), before)
        session.do(*[("all", [])] * 16)
        session.do(*[("all", [])] * 16)
        self.assertEqual((len(session.commands()), len(session)), (32, 2))

    def test_tell(self):
        session = self.new()
        self.assertIsNone(session.tell("split"))
        self.assertEqual(session.commands(), [SPLIT])
        session.tell(line="first\nexact k\nelse\ntry\nexact h\nend\nend")
        self.assertEqual((session.many, session.history()), (1, (2, 0)))
        session.tell("recall fact")
        session.tell("apply >")
        session.tell("exact [p]")
        self.assertEqual(session.many, 0)
        self.assertEqual(session.commands(), list(Script.read(
            "split\nfirst\nexact k\nelse\ntry\nexact h\nend\nend\nrecall fact\napply >\nexact [p]").commands()))

    def test_wrong_lines(self):
        session = self.new()
        session.do(SPLIT)
        session.undo()
        before = state(session)

        def check(text, line):
            with self.assertRaises(InvalidText) as caught:
                session.tell(text)
            self.assertEqual(caught.exception.line, line)
            self.assertEqual(state(session), before)
        for value in OTHER_VALUES:
            check(value, 0)
        for text in ("", "splits", " split", "split ", "intro", "end", "else", SPLIT, ["split"]):
            check(text, 0)
        for text in ("split\nsplit", "left\nright\nabsurd", "try\nend\nall\nend", "first\nelse\nend\nsplit", "\n".join(["split"] * 16)):
            check(text, 0)
        check("split\n", 1)
        check("split\nsplits", 1)
        check("try", 1)
        check("try\nsplit", 2)
        check("try\nend\nend", 2)
        check("try\ntry\ntry\nsplit\nend\nend\nend", 3)
        for text in ("\n".join(["split"] * 17), "try\n" + "split\n" * 16 + "end"):
            with self.assertRaises(TooMany) as caught:
                session.tell(text)
            self.assertEqual(caught.exception.most, 16)
            self.assertEqual(state(session), before)
        with self.assertRaises(Refused) as caught:
            session.tell("left")
        self.assertEqual((caught.exception.path, caught.exception.reason), ((0,), "shape"))
        with self.assertRaises(Refused) as caught:
            session.tell("first\nleft\nelse\nsplit\nexact k\nend")
        self.assertEqual((caught.exception.path, caught.exception.reason), ((0, 1, 1), "other"))
        self.assertEqual(state(session), before)

    def test_undo_and_redo(self):
        session = self.new()
        states = [state(session)]
        steps = ((SPLIT,), (EXACT,), (), (("recall", "fact"), APPLY), (EXACT,))
        for step in steps:
            session.do(*step)
            states.append(state(session))
        for at in range(5, 0, -1):
            self.assertIsNone(session.undo())
            self.assertEqual(session.history(), (at - 1, 6 - at))
            self.assertEqual(session.goals(), states[at - 1][6])
            self.assertEqual(session.commands(), states[at - 1][5])
            self.assertEqual((len(session), session.many), (at - 1, len(states[at - 1][6])))
        with self.assertRaises(NothingLeft):
            session.undo()
        self.assertEqual(session.history(), (0, 5))
        for at in range(1, 6):
            self.assertIsNone(session.redo())
            self.assertEqual(session.history(), (at, 5 - at))
            self.assertEqual(session.goals(), states[at][6])
            self.assertEqual(session.derivation(), states[at][7])
        with self.assertRaises(NothingLeft):
            session.redo()
        self.assertEqual(state(session), states[5])

    def test_nothing_left(self):
        session = self.new()
        for method in (session.undo, session.redo):
            with self.assertRaises(NothingLeft):
                method()
            self.assertEqual(state(session), state(self.new()))

    def test_a_new_step_takes_away_what_was_undone(self):
        session = self.new()
        session.do(SPLIT)
        session.do(EXACT)
        session.undo()
        session.undo()
        session.do(("absurd",))
        self.assertEqual(session.history(), (1, 0))
        with self.assertRaises(NothingLeft):
            session.redo()
        session.undo()
        session.tell("split")
        session.tell("exact h")
        session.tell("apply k")
        session.tell("exact h")
        self.assertIs(is_derivation(session.derivation(), CONTEXT, GOAL), True)
        self.assertEqual(session.commands(), [SPLIT, EXACT, ("apply", ("name", "k")), EXACT])

    def test_equal_states_have_equal_terms(self):
        one, other = self.new(), self.new()
        one.do(("absurd",), ("have", "x", P))
        one.do(EXACT)
        one.undo()
        one.undo()
        for session in (one, other):
            session.do(SPLIT)
            session.do(EXACT)
            session.do(("use", ("name", "k"), ("name", "h"), "x"), ("exact", ("name", "x")))
        self.assertEqual(state(one), state(other))

    def test_twin(self):
        session = self.new()
        session.do(SPLIT)
        session.do(EXACT)
        session.do(APPLY)
        session.undo()
        twin = session.twin()
        self.assertEqual(state(twin), state(session))
        before = state(session)
        twin.redo()
        twin.do(EXACT)
        self.assertEqual(state(session), before)
        self.assertEqual((twin.many, twin.history()), (0, (4, 0)))
        self.assertIs(is_derivation(twin.derivation(), CONTEXT, GOAL), True)
        session.undo()
        session.undo()
        self.assertEqual(twin.history(), (4, 0))
        session.do(("recall", "fact"))
        twin = session.twin()
        twin.undo()
        twin.do(("recall", "fact"))
        self.assertEqual(state(twin), state(session))
        twin.undo()
        self.assertEqual(state(twin), state(session)[:4] + ((0, 1), [], [(tuple(CONTEXT.rows()), GOAL)], None, 0, "Session(1 goals)"))

    def test_lists_and_dicts_are_copied(self):
        facts = dict(FACTS)
        session = Session(CONTEXT, GOAL, facts=facts)
        facts["more"] = P
        del facts["fact"]
        self.refused(session, (0,), "fact", ("recall", "more"))
        session.do(("recall", "fact"))
        block = [SPLIT]
        session.do(("try", block))
        block.append(None)
        self.assertEqual(session.commands(), [("recall", "fact"), ("try", (SPLIT,))])
        session.commands().clear()
        session.goals().clear()
        self.assertEqual((len(session.commands()), session.many, len(session.goals())), (2, 2, 2))
        self.assertIsInstance(session.goals(), list)
        self.assertIsInstance(session.history(), tuple)

    def test_properties_cannot_be_assigned(self):
        session = self.new()
        for name in ("context", "goal", "many", "busy"):
            with self.assertRaises(AttributeError):
                setattr(session, name, None)

    def test_busy(self):
        session = self.new()
        self.assertIs(session.busy, False)
        session.do(SPLIT)
        self.assertIs(session.busy, False)
        self.refused(session, (0,), "shape", LEFT)
        self.assertIs(session.busy, False)
        told = []

        class Watching(dict):
            def get(self, name, *other):
                told.append(session.busy)
                return super().get(name, *other)
        session.given = session.start.given = session.now.given = Watching(FACTS)
        session.do(("recall", "fact"))
        self.assertEqual(told, [True])
        self.assertIs(session.busy, False)

    def test_no_facts(self):
        for session in (Session(CONTEXT, GOAL), Session(CONTEXT, GOAL, facts=None), Session(CONTEXT, GOAL, facts={})):
            self.refused(session, (0,), "fact", ("recall", "fact"))

    def test_random_sessions(self):
        for seed in range(150):
            random = Random(seed)
            rows = [(random.choice("hk"), model.random_formula(random, 3)) for _ in range(random.randint(0, 4))]
            goal = model.random_formula(random, 3)
            session = Session(Context(rows), goal, facts=FACTS)
            done, undone = [], []
            for _ in range(30):
                kind = random.random()
                if kind < 0.2 and done:
                    session.undo()
                    undone.append(done.pop())
                elif kind < 0.3 and undone:
                    session.redo()
                    done.append(undone.pop())
                elif kind < 0.4:
                    session = session.twin()
                elif kind < 0.55:
                    step = model.random_commands(random, 4)
                    end = model.end_of(sum(done, ()) + step, rows, goal, FACTS)
                    if end[0] == "stopped":
                        with self.assertRaises(Refused):
                            session.do(*step)
                    else:
                        session.do(*step)
                        done, undone = done + [step], []
                else:
                    goals = session.goals()
                    step = model.guided_commands(random, *goals[0], FACTS, 2) if goals else ()
                    if model.end_of(sum(done, ()) + step, rows, goal, FACTS)[0] != "stopped":
                        session.do(*step)
                        done, undone = done + [step], []
                self.assertEqual(session.history(), (len(done), len(undone)))
                self.assertEqual(session.commands(), list(sum(done, ())))
                end = model.end_of(sum(done, ()), rows, goal, FACTS)
                self.assertEqual(session.goals(), end[1] if end[0] == "open" else [])
                if end[0] == "shown":
                    self.assertIs(is_derivation(session.derivation(), Context(rows), goal, facts=FACTS), True)
                else:
                    self.assertIsNone(session.derivation())


class RandomRunsTest(unittest.TestCase):
    def check(self, commands, rows, goal, facts):
        script = Script(commands)
        self.assertEqual(script.commands(), list(commands))
        self.assertEqual(list(script.walk()), model.flat(commands))
        self.assertEqual(script.text(), "\n".join(model.lines(commands)))
        self.assertEqual(Script.read(script.text()), script)
        found = run(script, Context(rows), goal, facts=facts)
        end = model.end_of(commands, rows, goal, facts)
        if end[0] == "shown":
            self.assertEqual(found.told(), "shown")
            self.assertIs(is_derivation(found.term, Context(rows), goal, facts=facts), True)
            self.assertTrue(model.shows(found.term, goal, {at: row[1] for at, row in enumerate(rows)}, facts))
        elif end[0] == "open":
            self.assertIsInstance(found, Open)
            self.assertEqual(found.goals(), end[1])
        else:
            self.assertEqual((found.place, found.cause), end[1:])
        return end[0] if end[0] != "stopped" else end[2]

    def test_random_scripts(self):
        tally = {}
        for seed in range(3000):
            random = Random(seed)
            rows = [(random.choice("hk"), model.random_formula(random, 3)) for _ in range(random.randint(0, 4))]
            goal = model.random_formula(random, 3)
            facts = {name: model.random_formula(random, 3) for name in ("fa", "fb") if random.random() < 0.7}
            if seed - seed // 3 * 3:
                commands = model.random_commands(random, random.choice((2, 4, 8, 16)))
            else:
                commands = model.guided_commands(random, rows, goal, facts, 16)
            end = self.check(commands, rows, goal, facts)
            tally[end] = tally.get(end, 0) + 1
        for end in ("shown", "open", "none", "shape", "other", "fact"):
            self.assertGreater(tally[end], 20, tally)


if __name__ == "__main__":
    unittest.main()
