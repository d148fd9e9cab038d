"""Promises [40] to [42]: what steps are under, and the judge."""

import random
import unittest

from commonground.facts.judge import accepts, first_bad, refers_to, unders
from commonground.model.model import Model
from tests import naive
from tests.makers import NEVER, made, plain_solutions, random_body, random_steps, row

F = row(3, (0, 1))


class RefersTest(unittest.TestCase):
    def test_each_rule(self):
        for step, expected in (
            ((F, "bound", 7), []),
            ((F, "given", "c"), []),
            ((F, "suppose"), []),
            ((F, "sum", ()), []),
            ((F, "sum", ((4, 2), (1, 7), (4, 1))), [4, 1, 4]),
            ((F, "divide", 5, 3), [5]),
            ((F, "look", "c", ()), []),
            ((F, "look", "c", (6, 2, 6)), [6, 2, 6]),
            ((F, "apart", "c"), []),
            ((F, "then", "c", 8), [8]),
            ((F, "unit", ()), []),
            ((F, "unit", (3, 9, 3)), [3, 9, 3]),
            ((F, "cases", 9, 8, 2, 1), [9, 8, 2, 1]),
            ((F, "cases", 9, 9, 1, 2), [9, 9, 1, 2]),
            ((F, "absurd", 5), [5]),
            ((F, "weaken", 6), [6]),
        ):
            self.assertEqual(refers_to(step), expected, step)
            refers_to(step).append(1)
            self.assertEqual(refers_to(step), expected, step)


class UndersTest(unittest.TestCase):
    def test_each_rule(self):
        steps = (
            (F, "suppose"),
            (F, "bound", 0),
            (F, "suppose"),
            (F, "given", "c"),
            (F, "suppose"),
            (F, "look", "c", ()),
            (F, "look", "c", (2, 0, 1, 2)),
            (F, "apart", "c"),
            (F, "sum", ((4, 1), (0, 1))),
            (F, "sum", ()),
            (F, "divide", 8, 1),
            (F, "then", "c", 6),
            (F, "unit", (10, 11)),
            (F, "unit", ()),
            (F, "absurd", 12),
            (F, "weaken", 6),
            (F, "weaken", 5),
            (F, "suppose"),
        )
        expected = [(0,), (), (2,), (), (4,), (), (0, 2), (), (0, 4), (), (0, 4), (0, 2), (0, 2, 4), (), (0, 2, 4),
                    (0, 2), (), (17,)]
        self.assertEqual(unders(steps), expected)

    def test_no_steps(self):
        self.assertEqual(unders(()), [])

    def test_cases(self):
        start = ((F, "suppose"), (F, "suppose"), (F, "suppose"), (F, "suppose"), (F, "bound", 0),
                 (F, "sum", ((0, 1), (1, 1))), (F, "sum", ((1, 1), (2, 1))), (F, "sum", ((0, 1), (1, 1), (3, 1))))
        for i, j, s, t, expected in (
            (0, 1, 0, 1, ()),
            (0, 1, 1, 0, (0, 1)),
            (1, 0, 0, 1, (0, 1)),
            (0, 0, 0, 1, (0,)),
            (1, 1, 0, 1, (1,)),
            (4, 4, 0, 1, ()),
            (4, 1, 0, 1, ()),
            (0, 4, 0, 1, ()),
            (5, 5, 0, 1, (0, 1)),
            (5, 1, 0, 1, (1,)),
            (0, 5, 0, 1, (0,)),
            (5, 6, 0, 2, (1,)),
            (5, 6, 1, 1, (0, 2)),
            (7, 7, 0, 1, (0, 1, 3)),
            (7, 6, 3, 2, (0, 1)),
            (7, 4, 1, 0, (0, 3)),
            (4, 7, 1, 0, (1, 3)),
            (2, 3, 0, 1, (2, 3)),
            (3, 2, 0, 1, (2, 3)),
        ):
            steps = start + ((F, "cases", i, j, s, t), (F, "weaken", len(start)))
            self.assertEqual(unders(steps)[-2], expected, (i, j, s, t))
            self.assertEqual(unders(steps)[-1], expected, (i, j, s, t))

    def test_ascending_whatever_the_order_of_hints(self):
        start = tuple((F, "suppose") for _ in range(12))
        for hints in ((11, 3, 7), (3, 7, 11), (7, 11, 3, 7)):
            self.assertEqual(unders(start + ((F, "unit", hints),))[-1], (3, 7, 11))

    def test_whether_steps_follow_does_not_matter(self):
        self.assertEqual(unders(((NEVER, "suppose"), (row(-1), "bound", 99), (NEVER, "weaken", 0))), [(0,), (), (0,)])


def simple():
    """Return a model with x + y <= 5 whose best value, of 2x + y, is 9."""
    model = Model((("x", 0, 4), ("y", 0, 4)))
    model.put("sum", ("row", ((0, 1), (1, 1)), "<=", 5))
    model.aim(("max", ((0, 2), (1, 1)), 0))
    return model


STEPS = (
    (row(5, (0, 1), (1, 1)), "given", "sum"),
    (row(4, (0, 1)), "bound", 0),
    (row(9, (0, 2), (1, 1)), "sum", ((0, 1), (1, 1))),
)


class FirstBadTest(unittest.TestCase):
    def test_all_follow(self):
        self.assertIsNone(first_bad(simple(), STEPS))
        self.assertIsNone(first_bad(simple(), ()))

    def test_the_first_of_several(self):
        bad = (row(3, (0, 1)), "bound", 0)
        for at in range(4):
            steps = STEPS[:at] + (bad, bad) + STEPS[at:]
            self.assertEqual(first_bad(simple(), steps), at)

    def test_later_steps_are_not_seen(self):
        self.assertEqual(first_bad(simple(), (STEPS[2],) + STEPS[:2]), 0)
        self.assertEqual(first_bad(simple(), (STEPS[0], STEPS[2], STEPS[1])), 1)
        self.assertEqual(first_bad(simple(), ((row(4, (0, 1)), "weaken", 0),)), 0)
        self.assertEqual(first_bad(simple(), STEPS + ((row(4, (0, 1)), "weaken", -2),)), 3)

    def test_a_step_that_does_not_follow_is_reported_even_if_not_needed(self):
        self.assertEqual(first_bad(simple(), STEPS + ((NEVER, "suppose"),)), 3)


class AcceptsBestTest(unittest.TestCase):
    def check(self, expected, point, steps, model=None):
        self.assertIs(accepts(model or simple(), ("best", point, steps)), expected)

    def test_accepted(self):
        self.check(True, (4, 1), STEPS)

    def test_no_steps(self):
        self.check(False, (4, 1), ())
        model = simple()
        model.aim(("max", (), 0))
        self.check(False, (4, 1), (), model)
        self.check(True, (4, 1), ((row(0), "sum", ()),), model)

    def test_no_solution(self):
        self.check(False, (4, 2), STEPS)
        self.check(False, (5, 0), STEPS)
        self.check(False, (5, -1), STEPS)

    def test_not_the_best(self):
        self.check(False, (4, 0), STEPS)
        self.check(False, (3, 2), STEPS)

    def test_a_fact_that_just_does_not_imply_the_goal_row(self):
        self.check(False, (4, 1), STEPS[:2] + ((row(10, (0, 2), (1, 1)), "sum", ((0, 1), (1, 1))),))
        self.check(False, (4, 1), STEPS + (STEPS[0],))
        self.check(False, (4, 1), STEPS[:2])

    def test_a_step_that_does_not_follow(self):
        self.check(False, (4, 1), ((row(9, (0, 2), (1, 1)), "given", "sum"),))
        self.check(False, (4, 1), ((row(3, (1, 1)), "bound", 1),) + STEPS)

    def test_the_last_step_must_be_open(self):
        supposed = (row(9, (0, 2), (1, 1)), "suppose")
        self.check(False, (4, 1), (supposed,))
        self.check(False, (4, 1), STEPS + (supposed,))
        self.check(False, (4, 1), (supposed, (row(9, (0, 2), (1, 1)), "weaken", 0)))
        self.check(True, (4, 1), (supposed,) + tuple(
            (fact, rule, rest if rule != "sum" else ((1, 1), (2, 1))) for fact, rule, rest in STEPS))

    def test_min(self):
        model = simple()
        model.put("more", ("row", ((0, 1), (1, 1)), ">=", 3))
        model.aim(("min", ((0, 2), (1, 1)), 10))
        steps = (
            (row(-3, (0, -1), (1, -1)), "given", "more"),
            (row(0, (0, -1)), "bound", 0),
            (row(-3, (0, -2), (1, -1)), "sum", ((0, 1), (1, 1))),
        )
        self.check(True, (0, 3), steps, model)
        self.check(False, (1, 2), steps, model)
        self.check(False, (0, 4), steps, model)
        self.check(False, (0, 3), steps[:2] + ((row(-2, (0, -2), (1, -1)), "sum", ((0, 1), (1, 1))),), model)

    def test_single_term_by_a_literal(self):
        model = simple()
        model.aim(("max", ((0, 3),), 1))
        self.check(True, (4, 0), ((row(4, (0, 1)), "bound", 0),), model)
        self.check(False, (3, 0), ((row(4, (0, 1)), "bound", 0),), model)

    def test_a_contradiction_implies_the_goal_row_but_then_there_is_no_solution(self):
        model = simple()
        model.put("never", ("row", (), "<=", -1))
        steps = ((row(-1), "given", "never"),)
        self.check(False, (4, 1), steps, model)
        self.assertIs(accepts(model, ("none", steps)), True)


class AcceptsNoneTest(unittest.TestCase):
    def setUp(self):
        self.model = simple()
        self.model.put("far", ("row", ((0, 1), (1, 1)), ">=", 6))
        self.steps = (
            (row(5, (0, 1), (1, 1)), "given", "sum"),
            (row(-6, (0, -1), (1, -1)), "given", "far"),
            (row(-1), "sum", ((0, 1), (1, 1))),
        )

    def check(self, expected, steps):
        self.assertIs(accepts(self.model, ("none", steps)), expected)

    def test_accepted(self):
        self.check(True, self.steps)
        self.check(True, self.steps + ((NEVER, "absurd", 2),))

    def test_no_steps(self):
        self.check(False, ())

    def test_the_last_fact_must_be_a_contradiction(self):
        self.check(False, self.steps[:2])
        self.check(False, self.steps + (self.steps[0],))
        self.check(False, self.steps[:2] + ((row(0), "sum", ((0, 1), (1, 1))),))

    def test_a_step_that_does_not_follow(self):
        self.check(False, self.steps[:2] + ((row(-2), "sum", ((0, 1), (1, 1))),))
        self.check(False, ((NEVER, "suppose"),) + self.steps)
        self.check(False, ((NEVER, "unit", ()),))
        self.model.withdraw("far")
        self.check(False, self.steps)

    def test_the_last_step_must_be_open(self):
        self.check(False, ((row(-1), "suppose"),))
        self.check(False, ((row(-1), "suppose"), (NEVER, "absurd", 0)))
        self.check(False, self.steps + ((row(-1), "suppose"),))
        supposed = ((row(-1), "suppose"), (row(0), "suppose"))
        self.check(False, supposed + ((NEVER, "absurd", 0), (NEVER, "cases", 2, 2, 0, 1)))

    def test_by_cases(self):
        self.check(True, (
            (row(1, (0, 1)), "suppose"),
            (row(-2, (0, -1)), "suppose"),
            (row(-6, (0, -1), (1, -1)), "given", "far"),
            (row(5, (0, 1), (1, 1)), "given", "sum"),
            (NEVER, "unit", (0, 2)),
            (NEVER, "unit", (1, 2, 3, 2, 3)),
            (NEVER, "cases", 4, 5, 0, 1),
        ))

    def test_by_cases_under_one_only(self):
        self.check(False, (
            (row(1, (0, 1)), "suppose"),
            (row(-2, (0, -1)), "suppose"),
            (row(-6, (0, -1), (1, -1)), "given", "far"),
            (NEVER, "unit", (0, 2)),
            (NEVER, "cases", 3, 3, 0, 1),
        ))


class MeaningTest(unittest.TestCase):
    """[41]: at random models, what follows holds at all solutions at which the suppositions hold."""

    def test_what_follows_holds(self):
        rng = random.Random(41)
        rules = {}
        for _ in range(150):
            model = made([(-1, 2), (0, 2), (0, 1)], a=random_body(rng, 3), b=random_body(rng, 3))
            steps = random_steps(rng, model, 80)
            for step in steps:
                rules[step[1]] = rules.get(step[1], 0) + 1
            self.check_all(model, plain_solutions(model), steps)
        self.assertEqual(len(rules), 12, rules)

    def check_all(self, model, points, steps):
        self.assertIsNone(first_bad(model, tuple(steps)))
        for step, above in zip(steps, unders(steps)):
            for point in points:
                if all(naive.holds(steps[s][0], point) for s in above):
                    self.assertTrue(naive.holds(step[0], point), (model.told(), steps, step))
        last = steps[-1][0]
        if unders(steps)[-1] == () and last[1] == () and not naive.holds(last, ()):
            self.assertIs(accepts(model, ("none", tuple(steps))), True)
            self.assertEqual(points, [])


if __name__ == "__main__":
    unittest.main()
