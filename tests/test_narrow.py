"""Promises [98] to [100]: the narrowing worker."""

import random
import unittest

from commonground.errors import Stopped, TooLarge
from commonground.ledger.bounding import contradiction_in
from commonground.ledger.pen import Pen
from commonground.ledger.standing import Standing
from commonground.workers.learn import Learn
from commonground.workers.linear import Linear
from commonground.workers.narrow import Narrow
from commonground.workers.narrowing import box_of, narrow_box
from tests import boxes
from tests.makers import (
    NEVER, clause, made, plain_solutions, random_edit, random_linear_model, random_model, row,
)
from tests.turns import held, others_write

BOUNDS = [(-2, 3), (-1, 2), (0, 4)]


class NarrowTest(unittest.TestCase):
    def facts(self, ledger):
        return [ledger.fact(i) for i in ledger.open_entries()]

    def most_turns(self, model):
        wide = sum(model.high(v) - model.low(v) for v in range(model.many()))
        return wide + sum(body[0] == "when" for _, body in model.told()[1]) + 3

    def take(self, worker, ledger, standing, room=None):
        """Take a turn and return what it returns, having checked that it tells whether an entry was written."""
        before, best = ledger.many(), standing.best()
        returned = worker.turn(Pen(ledger, standing, room))
        self.assertIs(returned, ledger.many() > before)
        self.assertEqual(standing.best(), best)
        return returned

    def settle(self, ledger, standing, rng=None, room=None):
        """Take turns until one returns False, in all rooms, and check what holds then; return their number."""
        worker = Narrow()
        turns = 0
        going = True
        while going:
            if rng is not None and rng.random() < 0.5:
                worker = Narrow()
            before = ledger.many()
            try:
                going = self.take(worker, ledger, standing, room)
                turns += going
            except Stopped:
                self.assertEqual(ledger.many(), before + room)
        self.assertLessEqual(turns, self.most_turns(ledger.model))
        self.check_box(ledger)
        return turns

    def check_box(self, ledger):
        box = box_of(ledger)
        self.assertEqual(box, narrow_box(ledger.model, self.facts(ledger)))
        if box is None:
            self.assertIsNotNone(contradiction_in(ledger))
        for point in plain_solutions(ledger.model):
            self.assertTrue(boxes.lies_in((point, point), box))

    def check(self, model, expected):
        ledger, standing = held(model)
        turns = self.settle(ledger, standing)
        self.assertEqual(box_of(ledger), expected)
        self.assertEqual(narrow_box(model, []), expected)
        return ledger, turns


class FixedTest(NarrowTest):
    def test_nothing_to_write(self):
        for bodies in ({}, {"r": ("row", ((0, 1), (1, 1)), "<=", 9)}, {"t": ("times", 0, 1, 1)},
                       {"d": ("different", (0, 1))}, {"w": ("when", (0, "=", 3), ((1, 1),), ">=", 1)},
                       {"a": ("any", ((0, "=", 1), (1, "=", 1)))}):
            ledger, turns = self.check(made([(0, 4), (0, 4)], **bodies), ((0, 0), (4, 4)))
            self.assertEqual((turns, ledger.many()), (0, 0))

    def test_each_kind_of_body(self):
        for body, box in (
            (("row", ((0, 2), (1, 3)), "<=", 7), ((0, 0), (3, 2))),
            (("row", ((0, 2), (1, 3)), ">=", 17), ((3, 3), (4, 4))),
            (("row", ((0, 1), (1, -1)), "=", 3), ((3, 0), (4, 1))),
            (("any", ((0, "<=", 2), (1, "=", 7))), ((0, 0), (2, 4))),
            (("any", ((0, "=", 2),)), ((2, 0), (2, 4))),
            (("any", ((0, "!=", 4), (0, ">=", 9))), ((0, 0), (3, 4))),
            (("when", (0, ">=", 0), ((1, 1),), "<=", 2), ((0, 0), (4, 2))),
            (("when", (0, "!=", 7), ((1, 2),), "=", 6), ((0, 3), (4, 3))),
            (("when", (0, ">=", 2), ((1, 1),), ">=", 5), ((0, 0), (1, 4))),
            (("when", (0, "!=", 2), ((1, 1),), "=", 5), ((2, 0), (2, 4))),
            (("when", (0, "=", 4), (), "<=", -1), ((0, 0), (3, 4))),
            (("when", (0, "=", 0), ((0, 1), (1, 1)), ">=", 9), ((1, 0), (4, 4))),
            (("when", (0, "<=", 2), (), "=", 1), ((3, 0), (4, 4))),
            (("table", (1, 0), ((1, 2), (9, 0), (3, 3))), ((2, 1), (3, 3))),
            (("element", 0, (9, 3, 1), 1), ((1, 1), (2, 3))),
            (("element", 0, (3, 1, 1, 4, 0), 0), ((1, 0), (1, 4))),
            (("times", 0, 1, 0), ((0, 0), (4, 4))),
            (("times", 0, 0, 1), ((0, 0), (2, 4))),
        ):
            ledger, turns = self.check(made([(0, 4), (0, 4)], b=body), box)
            self.assertGreater(turns + (box == ((0, 0), (4, 4))), 0)

    def test_different(self):
        self.check(made([(1, 1), (0, 2), (0, 2)], d=("different", (2, 0, 1))), ((1, 0, 0), (1, 2, 2)))
        self.check(made([(1, 1), (1, 2), (1, 3)], d=("different", (2, 0, 1))), ((1, 2, 3), (1, 2, 3)))
        self.check(made([(2, 2), (1, 2), (0, 2)], d=("different", (2, 0, 1))), ((2, 1, 0), (2, 1, 0)))

    def test_no_consistent_box(self):
        for bodies in (
            {"r": ("row", (), ">=", 1)}, {"r": ("row", ((0, 1), (1, 1)), ">=", 9)}, {"a": ("any", ((0, "=", 5),))},
            {"r": ("row", ((0, 3),), "=", 4)}, {"r": ("row", ((0, 2), (1, -2)), "=", 1)},
            {"w": ("when", (0, "<=", 4), (), "<=", -1)}, {"w": ("when", (0, ">=", -1), ((1, 1),), ">=", 5)},
            {"t": ("table", (0, 1), ((5, 0), (0, 5)))}, {"e": ("element", 0, (7, 8), 1)},
            {"t": ("times", 0, 1, 1), "r": ("row", ((0, 1),), ">=", 2), "s": ("row", ((1, 1),), ">=", 1)},
            {"d": ("different", (0, 1)), "a": ("any", ((0, "=", 1),)), "b": ("any", ((1, "=", 1),))},
        ):
            ledger, turns = self.check(made([(0, 4), (0, 4)], **bodies), None)
            self.assertGreater(turns, 0)
            self.assertEqual(plain_solutions(ledger.model), [])

    def test_times_with_many_values(self):
        self.check(made([(1, 20), (1, 21), (900, 901)], t=("times", 0, 1, 2)), ((1, 1, 900), (20, 21, 901)))
        self.check(made([(1, 20), (1, 20), (300, 900)], t=("times", 0, 1, 2)), ((15, 15, 300), (20, 20, 400)))

    def test_wide_bounds(self):
        # Nobody could look at all choices of values here.
        wide = [(-1000, 1000)] * 4
        terms = tuple((v, v + 1) for v in range(4))
        low, high = -1000, 1000
        for body, facts, expected in (
            (("different", (0, 1, 2, 3)), (("=", 5), (">=", 5), ("<=", 5)), ((5, 6, low, low), (5, high, 4, high))),
            (("when", (0, ">=", 0), terms, "<=", -8990), (("=", 0), ("<=", 500)),
             ((0, low, low, low), (0, -995, -997, -998))),
            (("when", (0, "<=", 500), terms, ">=", 9490), (("<=", 500), (">=", 0)),
             ((490, 995, 997, 998), (500, high, high, high))),
            (("when", (0, "<=", 500), terms, ">=", 9800), (("<=", 500), (">=", 0)), None),
            (("when", (0, "<=", 500), terms, ">=", 10001), (), ((501, low, low, low), (high,) * 4)),
            (("when", (1, "=", -1000), ((0, 1),), "=", 1001), (), ((low, -999, low, low), (high,) * 4)),
            (("any", ((0, "=", 7), (1, "=", 8), (2, ">=", 9), (3, "!=", 0))), (("<=", 6), (">=", 9), ("<=", 9)),
             ((low, 9, low, low), (6, high, 9, high))),
            (("any", ((0, "=", 7), (1, "=", 8), (2, ">=", 9), (3, "<=", 0))), (("<=", 6), (">=", 9), ("<=", 8)),
             ((low, 9, low, low), (6, high, 8, 0))),
            (("row", terms, "=", 9999), (), ((999, high, high, high), (999, high, high, high))),
        ):
            bodies = {f"f{v}": ("any", ((v, relation, a),)) for v, (relation, a) in enumerate(facts)}
            ledger, standing = held(made(wide, b=body, **bodies))
            self.settle_wide(ledger, standing)
            self.assertEqual(box_of(ledger), expected)
            self.assertEqual(narrow_box(ledger.model, []), expected)

    def settle_wide(self, ledger, standing):
        turns = 0
        while self.take(Narrow(), ledger, standing):
            turns += 1
        self.assertLessEqual(turns, self.most_turns(ledger.model))
        self.assertEqual(box_of(ledger), narrow_box(ledger.model, self.facts(ledger)))

    def test_what_is_written(self):
        ledger, _ = self.check(made([(0, 4), (0, 4)], r=("row", ((0, 1), (1, 1)), "<=", 3)), ((0, 0), (3, 3)))
        self.assertEqual(list(ledger), [
            (row(3, (0, 1), (1, 1)), "given", "r"), (row(3, (0, 1)), "unit", (0,)), (row(3, (1, 1)), "unit", (0,)),
        ])
        ledger, _ = self.check(made([(0, 4), (0, 4)], e=("element", 0, (9, 3, 1), 1)), ((1, 1), (2, 3)))
        self.assertEqual({step[1] for step in ledger}, {"look"})

    def test_one_value_after_the_other(self):
        model = made([(0, 60), (0, 60)], a=("row", ((0, 1), (1, -1)), "<=", -1), b=("row", ((0, -1), (1, 1)), "<=", -1))
        _, turns = self.check(model, None)
        self.assertGreater(turns, 2)

    def test_when_bodies_one_after_the_other(self):
        bodies = {f"w{k}": ("when", (k, "=", 1), ((k + 1, 1),), ">=", 1) for k in range(8, -1, -1)}
        model = made([(0, 1)] * 10, s=("any", ((0, "=", 1),)), **bodies)
        self.check(model, ((1,) * 10, (1,) * 10))


class EntriesTest(NarrowTest):
    """Entries of others that state more than the bodies ask of a box."""

    # Each of the two bodies alone has the whole box as the hull of its supports; both together leave one point.
    BODIES = {"sum": ("table", (0, 1), tuple((a, 4 - a) for a in range(5))),
              "same": ("table", (0, 1), tuple((a, a) for a in range(5)))}

    def excluded(self, ledger, *values):
        """Write clauses that exclude these values of unknown 0."""
        for a in values:
            above = ledger.offer((clause((0, "!=", a), (1, ">=", 4 - a)), "look", "sum", ()))
            below = ledger.offer((clause((0, "!=", a), (1, "<=", 4 - a)), "look", "sum", ()))
            same = ledger.offer((clause((0, "!=", a), (1, "=", a)), "look", "same", ()))
            ledger.offer((clause((0, "!=", a)), "unit", (above, below, same)))

    def test_excluded_ends(self):
        for values, box in (
            ((), ((0, 0), (4, 4))), ((1, 3), ((0, 0), (4, 4))), ((0,), ((1, 1), (3, 3))), ((4,), ((1, 1), (3, 3))),
            ((0, 1), ((2, 2), (2, 2))), ((1, 0), ((2, 2), (2, 2))), ((3, 4), ((2, 2), (2, 2))),
        ):
            ledger, standing = held(made([(0, 4), (0, 4)], **self.BODIES))
            self.excluded(ledger, *values)
            self.settle(ledger, standing)
            self.assertEqual(box_of(ledger), box)

    def test_asleep_again(self):
        ledger, standing = held(made([(0, 4), (0, 4)], **self.BODIES))
        self.excluded(ledger, 0)
        self.settle(ledger, standing)
        ledger.withdraw("same")
        self.settle(ledger, standing)
        self.assertEqual(box_of(ledger), ((0, 0), (4, 4)))
        many = ledger.many()
        ledger.put("same", self.BODIES["same"])
        self.assertEqual(self.settle(ledger, standing), 0)
        self.assertEqual((box_of(ledger), ledger.many()), (((1, 1), (3, 3)), many))

    def test_under_a_supposition(self):
        ledger, standing = held(made([(0, 4), (0, 4)], **self.BODIES))
        ledger.offer((clause((0, "=", 3)), "suppose"))
        ledger.offer((row(-1), "suppose"))
        ledger.offer((NEVER, "absurd", 1))
        self.assertIs(self.take(Narrow(), ledger, standing), False)

    def test_rows_and_clauses(self):
        bodies = {"r": ("row", ((0, 1), (1, 1)), "<=", 4), "s": ("row", ((0, 1), (1, -1)), "<=", 0)}
        ledger, standing = held(made([(0, 4), (0, 4)], **bodies))
        self.assertEqual(self.settle(ledger, standing), 0)
        r = ledger.offer((row(4, (0, 1), (1, 1)), "given", "r"))
        s = ledger.offer((row(0, (0, 1), (1, -1)), "given", "s"))
        self.assertEqual(self.settle(ledger, standing), 0)
        ledger.offer((row(4, (0, 2)), "sum", ((r, 1), (s, 1))))
        self.assertEqual(self.settle(ledger, standing), 0)
        self.assertEqual(box_of(ledger), ((0, 0), (2, 4)))

    def test_a_contradiction_is_known(self):
        for step in ((NEVER, "look", "e", ()), (row(-3), "look", "e", ())):
            ledger, standing = held(made([(0, 4), (0, 4)], e=("element", 0, (9,), 1)))
            ledger.offer(step)
            self.assertIs(self.take(Narrow(), ledger, standing), False)
            self.check_box(ledger)

    def test_no_value_left(self):
        for first, second in (
            (clause((0, "<=", 1)), clause((0, ">=", 2))), (clause((0, "=", 1)), clause((0, "=", 2))),
            (clause((0, "!=", 7)), clause((0, "=", 5))), (row(-1, (0, 1)), row(3, (0, 1))),
            (row(-9, (0, -2)), clause((0, "<=", 3))), (clause((0, "=", 3)), clause((0, "!=", 3))),
        ):
            ledger, standing = held(made([(0, 4), (0, 4)], e=("element", 0, (9,), 1)))
            ledger.put("f", ("element", 0, (9,), 0))
            for fact in (first, second):
                ledger.offer((fact, "look", "f", ()))
            self.settle(ledger, standing)
            self.assertIsNotNone(contradiction_in(ledger))


class RandomTest(NarrowTest):
    def model(self, rng, k):
        if k % 3 == 0:
            return random_linear_model(rng, 3, ((-3, 6), (0, 9), (0, 3)))
        bounds = [(low, low + rng.randint(0, 5)) for low in (-2, -1, 0)]
        return random_model(rng, "abcd"[:rng.randint(0, 4)], bounds)

    def test_alone(self):
        rng = random.Random(99)
        ends = {True: 0, False: 0}
        for k in range(300):
            ledger, standing = held(self.model(rng, k))
            self.settle(ledger, standing, rng)
            self.assertEqual(box_of(ledger), narrow_box(ledger.model, []))
            ends[box_of(ledger) is None] += 1
        self.assertGreater(min(ends.values()), 50, ends)

    def test_rooms(self):
        rng = random.Random(98)
        for k in range(150):
            ledger, standing = held(self.model(rng, k))
            self.settle(ledger, standing, rng, k % 5 + 1)
            self.assertEqual(box_of(ledger), narrow_box(ledger.model, []))

    def test_edits_and_entries_of_others(self):
        rng = random.Random(100)
        narrower = 0
        for k in range(150):
            ledger, standing = held(self.model(rng, k))
            for _ in range(5):
                if rng.random() < 0.7:
                    random_edit(rng, ledger, "abcd")
                others_write(rng, ledger, rng.choice((0, 5, 10)))
                for other in (Learn(), Linear(), Learn())[:rng.randint(0, 3)]:
                    other.turn(Pen(ledger, Standing(ledger)))
                self.settle(ledger, standing, rng, rng.choice((None, 1, 4)))
                narrower += box_of(ledger) != narrow_box(ledger.model, [])
        self.assertGreater(narrower, 8)

    def test_withdrawn_and_put_back(self):
        rng = random.Random(101)
        for k in range(80):
            ledger, standing = held(self.model(rng, k))
            if not ledger.model.labels():
                continue
            self.settle(ledger, standing)
            label = rng.choice(ledger.model.labels())
            body, box = ledger.model.body(label), box_of(ledger)
            ledger.withdraw(label)
            self.settle(ledger, standing)
            ledger.put(label, body)
            many = ledger.many()
            # All that was written is awake again.
            self.assertEqual(self.settle(ledger, standing), 0)
            self.assertEqual((box_of(ledger), ledger.many()), (box, many))

    def test_with_points_held(self):
        model = made(BOUNDS, r=("row", ((0, 1), (1, 1)), "<=", 2))
        ledger, standing = held(model, ("max", ((0, 1),), 0))
        standing.show((1, 1, 1))
        self.settle(ledger, standing)
        self.assertEqual(box_of(ledger), narrow_box(model, []))


class LimitTest(NarrowTest):
    def test_no_room(self):
        ledger, standing = held(made([(0, 4), (0, 4)], r=("row", ((0, 1), (1, 1)), "<=", 3)))
        for _ in range(2):
            self.assertRaises(Stopped, Narrow().turn, Pen(ledger, standing, 0))
            self.assertEqual(ledger.many(), 0)
        self.assertRaises(Stopped, Narrow().turn, Pen(ledger, standing, 2))
        self.assertEqual(ledger.many(), 2)
        self.assertIs(Narrow().turn(Pen(ledger, standing, 1)), True)
        # Without anything to write, no room is needed.
        self.assertIs(Narrow().turn(Pen(ledger, standing, 0)), False)

    def test_a_full_ledger(self):
        ledger, standing = held(made([(0, 4), (0, 4)], r=("row", ((0, 1), (1, 1)), "<=", 3)))
        for _ in range(19998):
            ledger.offer((row(4, (1, 1)), "bound", 1))
        self.assertRaises(TooLarge, Narrow().turn, Pen(ledger, standing))
        self.assertEqual(ledger.many(), 20000)
        self.assertRaises(TooLarge, Narrow().turn, Pen(ledger, standing))


if __name__ == "__main__":
    unittest.main()
