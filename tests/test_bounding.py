"""Promise [50]: what a ledger tells about the goal."""

import random
import unittest

from commonground.facts.fact import implies, is_contradiction
from commonground.ledger.bounding import bound_of, contradiction_in, entry_for
from commonground.ledger.ledger import Ledger
from commonground.model.model import Model
from tests.makers import NEVER, clause, row


def made(goal=("max", (), 0), **bodies):
    model = Model((("x", -9, 9), ("y", -9, 9), ("z", -9, 9)))
    for label, body in bodies.items():
        model.put(label, body)
    model.aim(goal)
    return Ledger(model)


def stated(goal, *facts):
    """Return a ledger with one open entry for each of the facts."""
    ledger = made(goal)
    for k, fact in enumerate(facts):
        state(ledger, f"c{k}", fact)
    return ledger


def state(ledger, label, fact):
    ledger.put(label, fact if fact[0] == "any" else ("row", fact[1], "<=", fact[2]))
    return ledger.offer((fact, "given", label))


class ContradictionTest(unittest.TestCase):
    def test_none_at_first(self):
        self.assertIsNone(contradiction_in(made()))

    def test_the_lowest_one(self):
        ledger = stated(("max", (), 0), row(0), row(-1, (0, 1)), row(-2), row(-1))
        self.assertEqual(contradiction_in(ledger), 2)
        ledger.offer((NEVER, "absurd", 3))
        ledger.withdraw("c2")
        self.assertEqual(contradiction_in(ledger), 3)
        ledger.put("c2", ("row", (), "<=", -2))
        self.assertEqual(contradiction_in(ledger), 2)
        ledger.withdraw("c2")
        ledger.withdraw("c3")
        self.assertIsNone(contradiction_in(ledger))

    def test_clauses_without_literals(self):
        ledger = stated(("max", (), 0), row(-1))
        number = ledger.offer((NEVER, "absurd", 0))
        self.assertEqual(contradiction_in(ledger), 0)
        ledger = made(c=("row", (), ">=", 1))
        number = ledger.offer((NEVER, "look", "c", ()))
        self.assertEqual((number, contradiction_in(ledger)), (0, 0))

    def test_only_open_entries_count(self):
        ledger = made()
        ledger.offer((row(-1), "suppose"))
        ledger.offer((NEVER, "absurd", 0))
        self.assertIsNone(contradiction_in(ledger))
        state(ledger, "c", row(-3))
        self.assertEqual(contradiction_in(ledger), 2)


class BoundTest(unittest.TestCase):
    terms = ((0, 2), (1, -1))

    def test_no_bound(self):
        for sense in ("max", "min"):
            for goal in ((sense, self.terms, 3), (sense, ((0, 2),), 3), (sense, (), 3)):
                self.assertIsNone(bound_of(made(goal)))
                self.assertIsNone(bound_of(stated(goal, row(4, (2, 1)), row(4, (0, 1), (1, 1)), clause((0, "!=", 1)))))

    def test_max(self):
        ledger = stated(("max", self.terms, 3), row(7, *self.terms))
        self.assertEqual(bound_of(ledger), 10)
        state(ledger, "d", row(9, *self.terms))
        self.assertEqual(bound_of(ledger), 10)
        state(ledger, "e", row(-4, *self.terms))
        self.assertEqual(bound_of(ledger), -1)
        ledger.withdraw("e")
        self.assertEqual(bound_of(ledger), 10)

    def test_min(self):
        negated = ((0, -2), (1, 1))
        ledger = stated(("min", self.terms, 3), row(7, *negated), row(-9, *self.terms))
        self.assertEqual(bound_of(ledger), -4)
        state(ledger, "d", row(9, *negated))
        self.assertEqual(bound_of(ledger), -4)
        state(ledger, "e", row(-4, *negated))
        self.assertEqual(bound_of(ledger), 7)

    def test_only_equal_terms(self):
        for terms in (((0, -2), (1, 1)), ((0, 4), (1, -2)), ((0, 2),), ((1, -1),), ((0, 2), (1, -1), (2, 1)), ()):
            self.assertIsNone(bound_of(stated(("max", self.terms, 3), ("row", terms, 1))))

    def test_without_terms(self):
        self.assertEqual(bound_of(stated(("max", (), 3), row(0))), 3)
        self.assertEqual(bound_of(stated(("max", (), 3), row(2))), 5)
        self.assertEqual(bound_of(stated(("min", (), 3), row(2))), 1)
        self.assertEqual(bound_of(stated(("max", (), 3), row(2), row(1), row(5))), 4)

    def test_contradictions_tell_no_bound(self):
        self.assertIsNone(bound_of(stated(("max", (), 3), row(-1))))
        self.assertEqual(bound_of(stated(("max", (), 3), row(-1), row(1))), 4)
        ledger = stated(("max", self.terms, 3), row(-1))
        ledger.offer((NEVER, "absurd", 0))
        self.assertIsNone(bound_of(ledger))
        ledger.offer((row(7, *self.terms), "absurd", 0))
        self.assertEqual(bound_of(ledger), 10)

    def test_only_awake_open_entries(self):
        ledger = made(("max", self.terms, 3))
        ledger.offer((row(7, *self.terms), "suppose"))
        ledger.offer((row(8, *self.terms), "weaken", 0))
        self.assertIsNone(bound_of(ledger))
        state(ledger, "c", row(9, *self.terms))
        self.assertEqual(bound_of(ledger), 12)
        ledger.withdraw("c")
        self.assertIsNone(bound_of(ledger))

    def test_the_present_goal_counts(self):
        ledger = stated(("max", self.terms, 3), row(7, *self.terms), row(2, (0, -2), (1, 1)))
        self.assertEqual(bound_of(ledger), 10)
        ledger.aim(("max", self.terms, -3))
        self.assertEqual(bound_of(ledger), 4)
        ledger.aim(("min", self.terms, -3))
        self.assertEqual(bound_of(ledger), -5)
        ledger.aim(("min", (), 0))
        self.assertIsNone(bound_of(ledger))

    def test_single_term_by_literals(self):
        for sense, c, fact, bound in (
            ("max", 3, clause((0, "<=", 4)), 22),
            ("max", 3, clause((0, "=", 4)), 22),
            ("max", 3, row(4, (0, 1)), 22),
            ("max", 3, row(14, (0, 3)), 22),
            ("max", 3, row(9, (0, 2)), 22),
            ("max", 3, row(-9, (0, 2)), -5),
            ("max", 3, clause((0, ">=", 4)), None),
            ("max", 3, clause((0, "!=", 4)), None),
            ("max", 3, clause((1, "<=", 4)), None),
            ("max", 3, clause((0, "<=", 4), (0, "=", 4)), None),
            ("max", 3, row(-4, (0, -1)), None),
            ("max", -3, clause((0, ">=", 4)), -2),
            ("max", -3, clause((0, "=", 4)), -2),
            ("max", -3, row(-4, (0, -1)), -2),
            ("max", -3, row(-7, (0, -2)), -2),
            ("max", -3, clause((0, "<=", 4)), None),
            ("min", 3, clause((0, ">=", 4)), 22),
            ("min", 3, clause((0, "=", 4)), 22),
            ("min", 3, row(-11, (0, -3)), 22),
            ("min", 3, clause((0, "<=", 4)), None),
            ("min", -3, clause((0, "<=", 4)), -2),
            ("min", -3, clause((0, "=", 4)), -2),
            ("min", -3, row(14, (0, 3)), -2),
            ("min", -3, clause((0, ">=", 4)), None),
            ("max", 1, clause((0, "<=", 4)), 14),
            ("min", 1, clause((0, ">=", 4)), 14),
        ):
            with self.subTest(sense=sense, c=c, fact=fact):
                self.assertEqual(bound_of(stated((sense, ((0, c),), 10), fact)), bound)

    def test_literals_tell_nothing_of_several_terms(self):
        for sense in ("max", "min"):
            self.assertIsNone(bound_of(stated((sense, self.terms, 3), clause((0, "=", 1)), clause((1, "=", 1)))))

    def test_as_a_search_for_the_value_tells(self):
        rng = random.Random(50)
        for _ in range(400):
            terms = rng.choice(((), ((0, 2),), ((0, -2),), ((0, 1),), self.terms))
            goal = (rng.choice(("max", "min")), terms, rng.randint(-3, 3))
            facts = []
            for _ in range(rng.randint(0, 4)):
                facts.append(rng.choice((
                    row(rng.randint(-6, 6), *goal[1]),
                    row(rng.randint(-6, 6), *[(v, -c) for v, c in goal[1]]),
                    row(rng.randint(-6, 6), (0, rng.choice((-3, -2, -1, 1, 2, 3)))),
                    clause((0, rng.choice(("<=", ">=", "=", "!=")), rng.randint(-3, 3))),
                )))
            ledger = stated(goal, *facts)
            telling = [fact for fact in facts if not is_contradiction(fact)]
            known = [worth for worth in range(-60, 61)
                     if any(implies(fact, ledger.model.goal_row(worth)) for fact in telling)]
            best = (min if goal[0] == "max" else max)(known, default=None)
            self.assertEqual(bound_of(ledger), best, (goal, facts))


class EntryForTest(unittest.TestCase):
    terms = ((0, 2), (1, -1))

    def test_the_lowest_that_implies_the_goal_row(self):
        ledger = stated(("max", self.terms, 3), row(9, *self.terms), row(7, *self.terms), row(5, *self.terms))
        for worth, expected in ((13, 0), (12, 0), (11, 1), (10, 1), (9, 2), (8, 2), (7, None), (-50, None)):
            self.assertEqual(entry_for(ledger, worth), expected, worth)
        ledger.withdraw("c0")
        self.assertEqual(entry_for(ledger, 12), 1)

    def test_min(self):
        ledger = stated(("min", self.terms, 3), row(9, *self.terms), row(7, (0, -2), (1, 1)))
        for worth, expected in ((-5, 1), (-4, 1), (-3, None), (0, None)):
            self.assertEqual(entry_for(ledger, worth), expected, worth)

    def test_contradictions_imply_it(self):
        ledger = stated(("max", self.terms, 3), row(7, *self.terms), row(-1))
        self.assertEqual(entry_for(ledger, 10), 0)
        self.assertEqual(entry_for(ledger, 9), 1)
        self.assertEqual(entry_for(ledger, -999), 1)

    def test_only_awake_open_entries(self):
        ledger = made(("max", self.terms, 3))
        ledger.offer((row(7, *self.terms), "suppose"))
        ledger.offer((row(8, *self.terms), "weaken", 0))
        self.assertIsNone(entry_for(ledger, 100))
        state(ledger, "c", row(9, *self.terms))
        self.assertEqual(entry_for(ledger, 100), 2)
        ledger.withdraw("c")
        self.assertIsNone(entry_for(ledger, 100))

    def test_literals(self):
        ledger = stated(("max", ((0, 3),), 1), clause((0, "!=", 4)), clause((0, "<=", 4)), clause((0, "=", 2)))
        for worth, expected in ((14, 1), (13, 1), (12, 2), (7, 2), (6, None)):
            self.assertEqual(entry_for(ledger, worth), expected, worth)

    def test_without_terms(self):
        ledger = stated(("max", (), 3), row(2), row(0))
        for worth, expected in ((6, 0), (5, 0), (4, 1), (3, 1), (2, None)):
            self.assertEqual(entry_for(ledger, worth), expected, worth)


if __name__ == "__main__":
    unittest.main()
