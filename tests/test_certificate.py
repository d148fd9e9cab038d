"""Promises [51] to [55]: trimming, cutting, composing and carrying."""

import random
import unittest

from commonground.errors import NoSuch, Refused
from commonground.facts.judge import accepts, first_bad, refers_to, unders
from commonground.ledger.certificate import carry, carry_body, compose, cut, trim
from commonground.ledger.ledger import Ledger
from commonground.model.body import body_fits
from commonground.model.model import Model
from tests import naive
from tests.makers import NEVER, clause, made, random_body, random_model, random_steps, row

F = row(3, (0, 1))
G = clause((1, "!=", 2))


class TrimTest(unittest.TestCase):
    def check(self, steps, expected):
        self.assertEqual(trim(steps), expected)
        self.assertIsInstance(trim(steps), tuple)
        self.assertEqual(trim(expected), expected)

    def test_no_steps(self):
        self.check((), ())

    def test_one_step(self):
        self.check(((F, "suppose"),), ((F, "suppose"),))

    def test_what_is_not_needed_goes(self):
        self.check(((F, "bound", 0), (G, "bound", 1)), ((G, "bound", 1),))
        self.check(((F, "bound", 0), (G, "bound", 1), (F, "weaken", 0)), ((F, "bound", 0), (F, "weaken", 0)))

    def test_directly_and_through_others(self):
        steps = (
            (F, "bound", 0),
            (F, "bound", 1),
            (F, "weaken", 1),
            (F, "weaken", 0),
            (F, "bound", 2),
            (F, "weaken", 2),
            (F, "bound", 3),
            (F, "unit", (5, 4, 5, 1)),
        )
        self.check(steps, (
            (F, "bound", 1),
            (F, "weaken", 0),
            (F, "bound", 2),
            (F, "weaken", 1),
            (F, "unit", (3, 2, 3, 0)),
        ))

    def test_several_references_to_one_step(self):
        steps = ((F, "bound", 0), (F, "bound", 1), (F, "weaken", 1), (F, "weaken", 1), (F, "sum", ((3, 2), (2, 1))))
        self.check(steps, ((F, "bound", 1), (F, "weaken", 0), (F, "weaken", 0), (F, "sum", ((2, 2), (1, 1)))))

    def test_every_rule(self):
        start = ((F, "bound", 9), (F, "suppose"), (F, "bound", 8), (F, "bound", 7), (F, "suppose"), (F, "bound", 6))
        for step, kept, expected in (
            ((G, "bound", 5), (), (G, "bound", 5)),
            ((G, "given", "c"), (), (G, "given", "c")),
            ((G, "suppose"), (), (G, "suppose")),
            ((G, "sum", ()), (), (G, "sum", ())),
            ((G, "sum", ((5, 4), (2, 3), (5, 1))), (2, 5), (G, "sum", ((1, 4), (0, 3), (1, 1)))),
            ((G, "divide", 4, 2), (4,), (G, "divide", 0, 2)),
            ((G, "look", "c", ()), (), (G, "look", "c", ())),
            ((G, "look", "c", (3, 1, 3)), (1, 3), (G, "look", "c", (1, 0, 1))),
            ((G, "apart", "c"), (), (G, "apart", "c")),
            ((G, "then", "c", 5), (5,), (G, "then", "c", 0)),
            ((G, "unit", ()), (), (G, "unit", ())),
            ((G, "unit", (4, 2)), (2, 4), (G, "unit", (1, 0))),
            ((G, "cases", 3, 5, 4, 1), (1, 3, 4, 5), (G, "cases", 1, 3, 2, 0)),
            ((G, "absurd", 3), (3,), (G, "absurd", 0)),
            ((G, "weaken", 5), (5,), (G, "weaken", 0)),
        ):
            with self.subTest(step=step):
                self.check(start + (step,), tuple(start[k] for k in kept) + (expected,))
                # The same where another step stands behind it that needs it.
                place = len(kept)
                last = (F, "weaken", len(start))
                self.check(start + (step, last), tuple(start[k] for k in kept) + (expected, (F, "weaken", place)))

    def test_numbers_of_no_step_stay(self):
        steps = ((F, "bound", 0), (F, "bound", 1), (F, "unit", (-1, 1, 3, 99)))
        self.check(steps, ((F, "bound", 1), (F, "unit", (-1, 0, 3, 99))))

    def test_the_argument_does_not_change(self):
        steps = ((F, "bound", 0), (F, "bound", 1), (F, "weaken", 1))
        trim(steps)
        self.assertEqual(steps, ((F, "bound", 0), (F, "bound", 1), (F, "weaken", 1)))

    def test_random_steps_still_follow(self):
        rng = random.Random(51)
        for _ in range(60):
            model = random_model(rng)
            steps = random_steps(rng, model, 60)
            for many in range(len(steps) + 1):
                trimmed = trim(steps[:many])
                self.assertIsNone(first_bad(model, trimmed))
                self.assertEqual(trim(trimmed), trimmed)
                self.assertEqual([step[:2] for step in trimmed[-1:]], [step[:2] for step in steps[:many][-1:]])
                used = {i for step in trimmed for i in refers_to(step)}
                self.assertLessEqual(set(range(len(trimmed) - 1)), used)


class CutTest(unittest.TestCase):
    def setUp(self):
        model = Model((("x", 0, 4), ("y", 0, 4)))
        model.put("less", ("row", ((0, 1), (1, 1)), "<=", 5))
        model.put("far", ("row", ((0, 1), (1, 1)), ">=", 6))
        self.ledger = Ledger(model)
        self.steps = (
            (row(4, (0, 1)), "bound", 0),
            (row(5, (0, 1), (1, 1)), "given", "less"),
            (row(-6, (0, -1), (1, -1)), "given", "far"),
            (row(1, (1, 1)), "suppose"),
            (row(0, (0, -1)), "bound", 0),
            (row(-1), "sum", ((1, 1), (2, 1))),
            (NEVER, "unit", (3, 2)),
        )
        for step in self.steps:
            self.ledger.offer(step)

    def test_the_last_step_is_that_of_the_entry(self):
        self.assertEqual(cut(self.ledger, 0), self.steps[:1])
        self.assertEqual(cut(self.ledger, 4), self.steps[4:5])
        steps = self.steps[1:3] + ((row(-1), "sum", ((0, 1), (1, 1))),)
        self.assertEqual(cut(self.ledger, 5), steps)
        self.assertIs(accepts(self.ledger.model, ("none", steps)), True)

    def test_an_entry_under_a_supposition(self):
        steps = (self.steps[2], self.steps[3], (NEVER, "unit", (1, 0)))
        self.assertEqual(cut(self.ledger, 6), steps)
        self.assertEqual(unders(steps)[-1], (1,))
        self.assertEqual(cut(self.ledger, 3), (self.steps[3],))

    def test_no_such_entry(self):
        for i in (-1, -7, 7, 100):
            with self.assertRaises(NoSuch) as caught:
                cut(self.ledger, i)
            self.assertEqual(caught.exception.what, i)

    def test_an_entry_that_is_asleep(self):
        self.ledger.withdraw("far")
        for i in (2, 5, 6):
            with self.assertRaises(Refused):
                cut(self.ledger, i)
        self.assertEqual(cut(self.ledger, 1), (self.steps[1],))
        self.ledger.put("far", ("row", ((0, 1), (1, 1)), ">=", 6))
        self.assertEqual(len(cut(self.ledger, 5)), 3)

    def test_the_ledger_does_not_change(self):
        cut(self.ledger, 5)
        self.assertEqual(tuple(self.ledger), self.steps)

    def test_cuts_of_random_ledgers_follow_after_edits(self):
        rng = random.Random(52)
        asleep = 0
        for _ in range(30):
            model = random_model(rng)
            ledger = Ledger(model)
            for step in random_steps(rng, model, 60):
                ledger.offer(step)
            ledger.move(rng.randrange(2), -1, rng.randint(0, 3))
            ledger.withdraw("b")
            for i in range(ledger.many()):
                if ledger.awake(i):
                    steps = cut(ledger, i)
                    self.assertEqual(steps[-1][:2], ledger.step(i)[:2])
                    self.assertIsNone(first_bad(ledger.model, steps))
                    self.assertEqual(len(unders(steps)[-1]), len(ledger.under(i)))
                else:
                    asleep += 1
                    self.assertRaises(Refused, cut, ledger, i)
        self.assertGreater(asleep, 50)


class ComposeTest(unittest.TestCase):
    HELPERS = ((F, "bound", 0), (G, "suppose"), (F, "weaken", 0))

    def test_no_helper_steps(self):
        for steps in ((), ((F, "bound", 0),)):
            self.assertRaises(Refused, compose, (), "c", steps)

    def test_a_last_helper_step_that_is_not_open(self):
        self.assertRaises(Refused, compose, ((F, "suppose"),), "c", ())
        self.assertRaises(Refused, compose, ((F, "bound", 0), (F, "suppose")), "c", ())
        self.assertRaises(Refused, compose, ((F, "suppose"), (F, "weaken", 0)), "c", ((F, "bound", 0),))
        self.assertRaises(Refused, compose, ((F, "suppose"), (F, "unit", (0,))), "c", ())
        # What is under a supposition may stand among the helper steps.
        self.assertEqual(compose(self.HELPERS, "c", ()), self.HELPERS)

    def test_cases_may_open_the_last_helper_step(self):
        helpers = ((row(0, (0, 1)), "suppose"), (row(-1, (0, -1)), "suppose"), (F, "cases", 0, 1, 0, 1))
        self.assertEqual(compose(helpers, "c", ()), helpers)
        self.assertRaises(Refused, compose, helpers[:2] + ((F, "cases", 1, 0, 0, 1),), "c", ())

    def test_numbers_of_no_helper_step_open_nothing_and_close_nothing(self):
        for i in (-1, 2, 9):
            start = ((F, "suppose"), (F, "bound", 0))
            self.assertRaises(Refused, compose, start + ((F, "unit", (0, i)),), "c", ())
            for step in ((F, "unit", (i, 1)), (F, "weaken", i), (F, "cases", i, 1, 0, 0)):
                self.assertEqual(compose(start + (step,), "c", ()), start + (step,))

    def test_numbers_are_raised(self):
        steps = (
            (G, "bound", 1),
            (G, "given", "d"),
            (G, "suppose"),
            (G, "sum", ((0, 5), (1, 6), (0, 1))),
            (G, "divide", 3, 2),
            (G, "look", "d", (2, 0)),
            (G, "apart", "d"),
            (G, "then", "d", 4),
            (G, "unit", (1, 2)),
            (G, "cases", 5, 6, 2, 4),
            (G, "absurd", 1),
            (G, "weaken", 10),
        )
        self.assertEqual(compose(self.HELPERS, "c", steps), self.HELPERS + (
            (G, "bound", 1),
            (G, "given", "d"),
            (G, "suppose"),
            (G, "sum", ((3, 5), (4, 6), (3, 1))),
            (G, "divide", 6, 2),
            (G, "look", "d", (5, 3)),
            (G, "apart", "d"),
            (G, "then", "d", 7),
            (G, "unit", (4, 5)),
            (G, "cases", 8, 9, 5, 7),
            (G, "absurd", 4),
            (G, "weaken", 13),
        ))

    def test_the_told_label(self):
        steps = ((F, "given", "c"), (G, "weaken", 0), (G, "given", "c"), (F, "given", "cc"))
        self.assertEqual(compose(self.HELPERS, "c", steps), self.HELPERS + (
            (F, "weaken", 2), (G, "weaken", 3), (G, "weaken", 2), (F, "given", "cc")))

    def test_other_uses_of_the_told_label(self):
        given = (F, "given", "c")
        for step in ((F, "look", "c", ()), (F, "look", "c", (0,)), (F, "apart", "c"), (F, "then", "c", 0)):
            self.assertRaises(Refused, compose, self.HELPERS, "c", (step,))
            self.assertRaises(Refused, compose, self.HELPERS, "c", (given, step))
            self.assertRaises(Refused, compose, self.HELPERS, "c", (step, given))
            self.assertEqual(len(compose(self.HELPERS, "d", (given, step))), 5)

    def test_helper_steps_that_use_the_label_stay(self):
        helpers = ((F, "look", "c", ()), (F, "given", "c"))
        self.assertEqual(compose(helpers, "c", ((F, "given", "c"),)), helpers + ((F, "weaken", 1),))

    def test_a_row_as_the_fact(self):
        model = made([(0, 4), (0, 4)], less=("row", ((0, 2), (1, 2)), "<=", 5))
        helpers = ((row(5, (0, 2), (1, 2)), "given", "less"), (row(2, (0, 1), (1, 1)), "divide", 0, 2))
        wider = model.copy()
        wider.put("sharp", ("row", ((0, 1), (1, 1)), "<=", 2))
        wider.put("far", ("row", ((0, 1), (1, 1)), ">=", 3))
        model.put("far", ("row", ((0, 1), (1, 1)), ">=", 3))
        steps = (
            (row(-3, (0, -1), (1, -1)), "given", "far"),
            (row(2, (0, 1), (1, 1)), "given", "sharp"),
            (row(-1), "sum", ((0, 1), (1, 1))),
        )
        self.assertIs(accepts(wider, ("none", steps)), True)
        self.assertIs(accepts(model, ("none", steps)), False)
        self.assertIs(accepts(model, ("none", compose(helpers, "sharp", steps))), True)

    def test_random_composed_steps_follow_without_the_constraint(self):
        rng = random.Random(53)
        composed = {"row": 0, "any": 0, "refused": 0}
        for _ in range(400):
            model = random_model(rng)
            helpers = random_steps(rng, model, 25)
            fact = helpers[-1][0]
            body = fact if fact[0] == "any" else ("row", fact[1], "<=", fact[2])
            wider = model.copy()
            if not body_fits(body, 3):
                continue
            wider.put("told", body)
            steps = random_steps(rng, wider, 40)
            using = any(step[2:3] == ("told",) and step[1] != "given" for step in steps)
            if unders(helpers)[-1] or using:
                self.assertRaises(Refused, compose, helpers, "told", steps)
                composed["refused"] += 1
                continue
            whole = compose(helpers, "told", steps)
            self.assertIsNone(first_bad(model, whole))
            self.assertEqual(whole[:len(helpers)], helpers)
            self.assertEqual([step[0] for step in whole[len(helpers):]], [step[0] for step in steps])
            composed[fact[0]] += any(step[1:] == ("given", "told") for step in steps)
        self.assertTrue(all(many > 3 for many in composed.values()), composed)


class CarryTest(unittest.TestCase):
    MODEL = Model((("x", 0, 4), ("y", 0, 4), ("z", 0, 4)))

    def check(self, other, step, expected):
        self.assertEqual(carry((step,), self.MODEL, other), (expected,))

    def test_terms_come_into_order_and_literals_stay(self):
        other = Model((("z", 0, 4), ("y", 0, 4), ("w", 0, 4), ("x", 0, 4)))
        self.check(other, (row(7, (0, 1), (1, -2), (2, 3)), "suppose"), (row(7, (0, 3), (1, -2), (3, 1)), "suppose"))
        self.check(other, (clause((0, "=", 1), (2, "<=", 2), (0, "=", 1)), "suppose"),
                   (clause((3, "=", 1), (0, "<=", 2), (3, "=", 1)), "suppose"))
        self.check(other, (row(-1), "suppose"), (row(-1), "suppose"))
        self.check(other, (NEVER, "suppose"), (NEVER, "suppose"))

    def test_every_rule(self):
        other = Model((("y", 0, 4), ("x", 0, 4), ("z", 0, 4)))
        for rest in (
            ("given", "c"), ("suppose",), ("sum", ((0, 2), (1, 3))), ("divide", 1, 2), ("look", "c", (1, 0)),
            ("apart", "c"), ("then", "c", 1), ("unit", (0, 1)), ("cases", 0, 1, 1, 0), ("absurd", 1), ("weaken", 0),
        ):
            self.check(other, (F,) + rest, (row(3, (1, 1)),) + rest)
        self.check(other, (F, "bound", 0), (row(3, (1, 1)), "bound", 1))
        self.check(other, (F, "bound", 2), (row(3, (1, 1)), "bound", 2))

    def test_no_steps(self):
        self.assertEqual(carry((), self.MODEL, Model((("a", 0, 0),))), ())

    def test_the_same_model(self):
        steps = ((row(7, (0, 1), (1, -2), (2, 3)), "bound", 1), (G, "unit", (0,)))
        self.assertEqual(carry(steps, self.MODEL, self.MODEL), steps)

    def missing(self, names, *steps):
        other = Model([(name, 0, 4) for name in names])
        with self.assertRaises(NoSuch) as caught:
            carry(steps, self.MODEL, other)
        return caught.exception.what

    def test_which_name_is_missing(self):
        all_three = row(7, (0, 1), (1, -2), (2, 3))
        self.assertEqual(self.missing("ab", (all_three, "suppose")), "x")
        self.assertEqual(self.missing("xb", (all_three, "suppose")), "y")
        self.assertEqual(self.missing("yx", (all_three, "suppose")), "z")
        self.assertEqual(self.missing("ab", (clause((2, "=", 1), (0, "=", 1)), "suppose")), "z")
        self.assertEqual(self.missing("az", (clause((2, "=", 1), (1, "=", 1), (0, "=", 1)), "suppose")), "y")
        # In a bound step the fact comes ahead of the unknown, and an earlier step ahead of a later one.
        self.assertEqual(self.missing("ab", (row(7, (2, 1)), "bound", 0)), "z")
        self.assertEqual(self.missing("az", (row(7, (2, 1)), "bound", 0)), "x")
        self.assertEqual(self.missing("az", (row(7), "bound", 1)), "y")
        self.assertEqual(self.missing("a", (row(7), "suppose"), (row(7, (1, 1)), "suppose"), (F, "suppose")), "y")

    def test_what_does_not_occur_need_not_be_there(self):
        other = Model((("y", 0, 4),))
        self.check(other, (row(1, (1, 2)), "bound", 1), (row(1, (0, 2)), "bound", 0))
        self.check(other, (row(1), "unit", (0, 1, 2)), (row(1), "unit", (0, 1, 2)))


BODIES = (
    (("row", ((0, 1), (1, -2), (2, 3)), ">=", 5), ("row", ((0, 3), (1, 1), (3, -2)), ">=", 5)),
    (("row", (), "=", 5), ("row", (), "=", 5)),
    (("any", ((1, "=", 1), (0, "<=", 2), (1, "!=", 3))), ("any", ((3, "=", 1), (1, "<=", 2), (3, "!=", 3)))),
    (("when", (1, "=", 1), ((0, 1), (1, 2), (2, 3)), "<=", 4),
     ("when", (3, "=", 1), ((0, 3), (1, 1), (3, 2)), "<=", 4)),
    (("different", (1, 2, 0)), ("different", (3, 0, 1))),
    (("table", (2, 0), ((1, 2), (3, 4))), ("table", (0, 1), ((1, 2), (3, 4)))),
    (("element", 2, (4, 5), 1), ("element", 0, (4, 5), 3)),
    (("element", 2, (4, 5), 2), ("element", 0, (4, 5), 0)),
    (("times", 2, 1, 2), ("times", 0, 3, 0)),
)


class CarryBodyTest(unittest.TestCase):
    MODEL = Model((("x", 0, 4), ("y", 0, 4), ("z", 0, 4), ("w", 0, 4)))

    def test_every_kind(self):
        other = Model((("z", 0, 9), ("x", 0, 9), ("v", 0, 9), ("y", 0, 9)))
        for body, expected in BODIES:
            self.assertEqual(carry_body(body, self.MODEL, other), expected)
            self.assertEqual(carry_body(body, self.MODEL, self.MODEL), body)

    def missing(self, names, body):
        with self.assertRaises(NoSuch) as caught:
            carry_body(body, self.MODEL, Model([(name, 0, 4) for name in names]))
        return caught.exception.what

    def test_which_name_is_missing(self):
        self.assertEqual(self.missing("a", ("different", (2, 1, 0))), "x")
        self.assertEqual(self.missing("xa", ("different", (2, 1, 0))), "y")
        self.assertEqual(self.missing("yx", ("different", (2, 1, 0))), "z")
        self.assertEqual(self.missing("ab", ("times", 2, 1, 2)), "y")
        self.assertEqual(self.missing("ab", ("any", ((3, "=", 1), (2, "=", 1)))), "z")
        self.assertEqual(self.missing("az", ("when", (3, "=", 1), ((1, 1), (2, 1)), "<=", 4)), "y")
        self.assertEqual(self.missing("az", ("table", (3, 2), ((1, 2),))), "w")
        self.assertEqual(self.missing("az", ("element", 2, (1,), 0)), "x")
        self.assertEqual(self.missing("az", ("row", ((2, 1), (3, 1)), "<=", 1)), "w")

    def test_random_bodies_hold_where_they_did(self):
        rng = random.Random(55)
        names = ("x0", "x1", "x2", "x3")
        model = made([(0, 4)] * 3)
        for _ in range(300):
            order = rng.sample(names, 4)
            other = Model([(name, 0, 4) for name in order])
            body = random_body(rng, 3)
            carried = carry_body(body, model, other)
            self.assertTrue(body_fits(carried, 4))
            for _ in range(5):
                point = tuple(rng.randint(-2, 4) for _ in range(4))
                there = tuple(point[names.index(name)] for name in order)
                self.assertEqual(naive.body_is_met(carried, there), naive.body_is_met(body, point))


class CarriedStepsTest(unittest.TestCase):
    """[54]: carried steps follow where the bodies are carried too."""

    def test_random_steps(self):
        rng = random.Random(54)
        rules = set()
        for _ in range(80):
            model = random_model(rng)
            steps = random_steps(rng, model, 60)
            order = rng.sample(("x0", "x1", "x2", "more"), 4)
            bounds = {"x0": (-1, 2), "x1": (0, 2), "x2": (0, 1), "more": (-9, 9)}
            other = Model([(name,) + bounds[name] for name in order])
            for label in rng.sample(("a", "b"), 2):
                other.put(label, carry_body(model.body(label), model, other))
            carried = carry(steps, model, other)
            self.assertIsNone(first_bad(other, carried))
            self.assertEqual(carry(carried, other, model), steps)
            self.assertEqual(unders(carried), unders(steps))
            rules.update(step[1] for step in carried)
        self.assertEqual(len(rules), 12, rules)

    def test_narrower_bounds(self):
        rng = random.Random(540)
        for _ in range(40):
            model = random_model(rng)
            steps = random_steps(rng, model, 40)
            other = Model((("x2", 0, 1), ("x1", 1, 2), ("x0", -1, 0)))
            for label in ("b", "a"):
                other.put(label, carry_body(model.body(label), model, other))
            self.assertIsNone(first_bad(other, carry(steps, model, other)))


if __name__ == "__main__":
    unittest.main()
