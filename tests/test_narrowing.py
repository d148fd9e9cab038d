"""Promises [92] to [97]: the box of a ledger, consistent boxes, and the greatest one."""

import random
import unittest

from commonground.ledger.ledger import Ledger
from commonground.workers.narrowing import (
    body_consistent, box_of, clause_consistent, is_possible, is_sure, keeps, least_sum, narrow_box, row_consistent,
)
from tests import boxes, naive
from tests.makers import NEVER, clause, made, plain_solutions, random_body, random_fact, random_model, row

BOUNDS = [(-1, 2), (0, 2), (0, 1)]
RELATIONS = ("<=", ">=", "=", "!=")


class BoxOfTest(unittest.TestCase):
    def ledger(self, **bodies):
        return Ledger(made([(0, 9), (-5, 5), (3, 3)], **bodies))

    def test_no_entries(self):
        self.assertEqual(box_of(self.ledger()), ((0, -5, 3), (9, 5, 3)))

    def check(self, body, fact, expected):
        ledger = self.ledger(b=body)
        ledger.offer((fact, "look", "b", ()))
        self.assertEqual(box_of(ledger), expected)

    def test_each_relation(self):
        body = ("table", (0,), ((4,),))
        self.check(body, clause((0, "<=", 4)), ((0, -5, 3), (4, 5, 3)))
        self.check(body, clause((0, ">=", 4)), ((4, -5, 3), (9, 5, 3)))
        self.check(body, clause((0, "=", 4)), ((4, -5, 3), (4, 5, 3)))
        self.check(body, clause((0, "!=", 9)), ((0, -5, 3), (9, 5, 3)))
        self.check(body, clause((0, "!=", 0)), ((0, -5, 3), (9, 5, 3)))
        self.check(body, row(9, (0, 2)), ((0, -5, 3), (4, 5, 3)))
        self.check(body, row(-7, (0, -2)), ((4, -5, 3), (9, 5, 3)))
        self.check(body, row(400, (0, 2)), ((0, -5, 3), (9, 5, 3)))

    def test_facts_that_count_as_no_literal(self):
        body = ("table", (0, 1), ((4, 4),))
        self.check(body, clause((0, "=", 4), (0, "=", 4)), ((0, -5, 3), (9, 5, 3)))
        self.check(body, clause((0, "<=", 4), (1, "<=", 4)), ((0, -5, 3), (9, 5, 3)))
        self.check(body, row(8, (0, 1), (1, 1)), ((0, -5, 3), (9, 5, 3)))
        self.check(body, row(0), ((0, -5, 3), (9, 5, 3)))

    def test_several_entries(self):
        ledger = self.ledger(b=("table", (0,), ((4,), (5,))), c=("table", (1,), ((0,),)))
        for fact, label in (
            (row(7, (0, 1)), "b"), (clause((0, "<=", 5)), "b"), (row(6, (0, 1)), "b"), (clause((1, "=", 0)), "c"),
            (clause((0, ">=", 4)), "b"), (clause((0, ">=", 2)), "b"),
        ):
            ledger.offer((fact, "look", label, ()))
        self.assertEqual(box_of(ledger), ((4, 0, 3), (5, 0, 3)))

    def test_a_contradiction(self):
        for fact in (NEVER, row(-1)):
            ledger = self.ledger(b=("table", (0,), ((99,),)))
            ledger.offer((clause((0, "<=", 4)), "look", "b", ()))
            ledger.offer((fact, "look", "b", ()))
            self.assertIsNone(box_of(ledger))
            ledger.withdraw("b")
            self.assertEqual(box_of(ledger), ((0, -5, 3), (9, 5, 3)))

    def test_no_value_left(self):
        for first, second in (
            (clause((0, "<=", 4)), clause((0, ">=", 5))), (clause((0, "=", 4)), clause((0, "=", 5))),
            (row(-1, (0, 1)), row(0)), (clause((2, "=", 4)), row(0)), (clause((0, "=", 3)), row(-4, (0, -1))),
        ):
            ledger = self.ledger(b=("table", (0, 2), ((99, 3),)))
            for fact in (first, second):
                ledger.offer((fact, "look", "b", ()))
                if fact == first and second != row(0):
                    self.assertIsNotNone(box_of(ledger))
            self.assertIsNone(box_of(ledger))

    def test_asleep_or_under_a_supposition(self):
        ledger = self.ledger(b=("table", (0,), ((4,),)))
        ledger.offer((clause((0, "=", 4)), "look", "b", ()))
        s = ledger.offer((clause((1, "<=", 2)), "suppose"))
        ledger.offer((row(2, (1, 1)), "weaken", s))
        self.assertEqual(box_of(ledger), ((4, -5, 3), (4, 5, 3)))
        ledger.withdraw("b")
        self.assertEqual(box_of(ledger), ((0, -5, 3), (9, 5, 3)))
        ledger.put("b", ("table", (0,), ((4,), (4,))))
        self.assertEqual(box_of(ledger), ((4, -5, 3), (4, 5, 3)))

    def test_moved_bounds(self):
        ledger = self.ledger(b=("table", (0,), ((4,), (6,))))
        ledger.offer((clause((0, ">=", 4)), "look", "b", ()))
        ledger.offer((clause((0, "<=", 6)), "look", "b", ()))
        for low, high, expected in ((0, 9, (4, 6)), (-50, 50, (4, 6)), (5, 9, (5, 6)), (0, 5, (4, 5)), (5, 5, (5, 5))):
            ledger.move(0, low, high)
            found = box_of(ledger)
            self.assertEqual((found[0][0], found[1][0]), expected)
        ledger.move(0, 7, 9)
        self.assertIsNone(box_of(ledger))


class LiteralTest(unittest.TestCase):
    def test_at_the_ends_and_just_outside(self):
        for low, high in ((0, 0), (0, 1), (-2, 3), (5, 9)):
            for relation in RELATIONS:
                for a in range(low - 2, high + 3):
                    for box in (((7, low), (8, high)), ([7, low], [8, high])):
                        literal = (1, relation, a)
                        self.assertIs(is_possible(box, literal), boxes.is_possible(box, literal))
                        self.assertIs(is_sure(box, literal), boxes.is_sure(box, literal))
                        self.assertIs(keeps(box, literal), boxes.keeps(box, literal))
        self.assertIs(keeps(((0,), (3,)), (0, "!=", 2)), True)
        self.assertIs(is_sure(((0,), (3,)), (0, "!=", 2)), False)
        self.assertIs(is_possible(((3,), (3,)), (0, "!=", 3)), False)
        self.assertIs(is_possible(((-1000,), (1000,)), (0, ">=", 10 ** 30)), False)

    def test_least_sum(self):
        box = ((-1, 0, 4), (2, 3, 4))
        self.assertEqual(least_sum(box, ()), 0)
        self.assertEqual(least_sum(box, ((0, 2), (1, -3), (2, 5))), -2 - 9 + 20)
        self.assertEqual(least_sum(box, ((0, -2), (1, 3))), -4)
        rng = random.Random(940)
        for _ in range(100):
            box = boxes.random_box(rng, BOUNDS)
            terms = tuple((v, rng.choice((-3, -1, 2))) for v in range(3) if rng.random() < 0.7)
            self.assertEqual(least_sum(box, terms), boxes.least_sum(box, terms))

    def test_lists_stay_as_they_were(self):
        box = ([0, 0], [3, 3])
        for body in (("row", ((0, 1),), "<=", 1), ("different", (0, 1)), ("times", 0, 0, 1), ("any", ((0, "=", 1),))):
            body_consistent(box, body)
        row_consistent(box, row(1, (0, 1)))
        clause_consistent(box, clause((0, "=", 1)))
        least_sum(box, ((0, 1),))
        self.assertEqual(box, ([0, 0], [3, 3]))


class FactTest(unittest.TestCase):
    BOX = ((0, -2), (4, 3))

    def test_rows(self):
        for fact, expected in (
            (row(0), True), (row(-1), False), (row(10 ** 40), True),
            (row(7, (0, 1), (1, 1)), True), (row(3, (0, 1), (1, 1)), True), (row(2, (0, 1), (1, 1)), False),
            (row(1, (0, 1), (1, 1)), False), (row(-2, (0, 1), (1, 1)), False), (row(-3, (0, 1), (1, 1)), False),
            (row(-2, (0, -1), (1, 1)), False), (row(-1, (0, -1), (1, 1)), True),
            (row(1, (0, 1), (1, -1)), False), (row(2, (0, 1), (1, -1)), True),
            (row(2, (0, -1)), True), (row(0, (0, -1)), True), (row(-1, (0, -1)), False),
            (row(4, (0, 1)), True), (row(3, (0, 1)), False), (row(9, (0, 2)), True), (row(7, (0, 2)), False),
        ):
            self.assertIs(row_consistent(self.BOX, fact), expected, fact)
            self.assertIs(row_consistent((list(self.BOX[0]), list(self.BOX[1])), fact), expected, fact)
        self.assertIs(row_consistent(((0, 0), (2, 3)), row(3, (0, 1), (1, 1))), True)
        self.assertIs(row_consistent(((0, 0), (2, 4)), row(3, (0, 1), (1, 1))), False)
        # The least sum just meets the rhs: only a box with one value for each unknown is consistent.
        self.assertIs(row_consistent(((1, 1), (1, 1)), row(2, (0, 1), (1, 1))), True)
        self.assertIs(row_consistent(((1, 1), (1, 2)), row(2, (0, 1), (1, 1))), False)
        self.assertIs(row_consistent(((1, 1), (1, 1)), row(1, (0, 1), (1, 1))), False)

    def test_clauses(self):
        for fact, expected in (
            (NEVER, False), (clause((0, "<=", 4)), True), (clause((0, "<=", 3)), False), (clause((0, "<=", -1)), False),
            (clause((0, "!=", 2)), True), (clause((0, "!=", 4)), False), (clause((0, "!=", 0)), False),
            (clause((0, "=", 2)), False), (clause((0, "=", 2), (0, "=", 2)), True),
            (clause((0, "=", 2), (1, "=", 9)), False), (clause((0, "=", 2), (1, "=", 3)), True),
            (clause((0, "<=", 4), (1, "=", 9), (1, ">=", 4)), True), (clause((0, ">=", 5), (1, ">=", 4)), False),
        ):
            self.assertIs(clause_consistent(self.BOX, fact), expected, fact)
            self.assertIs(clause_consistent((list(self.BOX[0]), list(self.BOX[1])), fact), expected, fact)
        self.assertIs(clause_consistent(((2, 0), (2, 9)), clause((0, "=", 2))), True)
        self.assertIs(clause_consistent(((2, 0), (2, 9)), clause((0, "!=", 2), (1, "!=", 5))), True)
        self.assertIs(clause_consistent(((2, 0), (2, 9)), clause((0, "!=", 2), (1, "!=", 9))), False)

    def test_random_facts(self):
        rng = random.Random(95)
        seen = {True: 0, False: 0}
        for _ in range(2000):
            box = boxes.random_box(rng, BOUNDS)
            fact = random_fact(rng, [0, 1, 2])
            consistent = row_consistent(box, fact) if fact[0] == "row" else clause_consistent(box, fact)
            self.assertIs(consistent, boxes.fact_ok(box, fact), (box, fact))
            seen[consistent] += 1
        self.assertGreater(min(seen.values()), 300, seen)


class BodyTest(unittest.TestCase):
    def check(self, box, body, expected):
        self.assertIs(boxes.body_ok(box, body), expected)
        self.assertIs(body_consistent(box, body), expected)
        self.assertIs(body_consistent((list(box[0]), list(box[1])), body), expected)

    def test_row_and_any(self):
        sums = ((0, 1), (1, 1))
        self.check(((0, 0), (2, 2)), ("row", sums, "<=", 4), True)
        self.check(((0, 0), (2, 2)), ("row", sums, "<=", 1), False)
        self.check(((0, 0), (2, 2)), ("row", sums, ">=", 2), True)
        self.check(((0, 0), (2, 2)), ("row", sums, ">=", 3), False)
        self.check(((0, 0), (2, 2)), ("row", sums, "=", 2), True)
        self.check(((0, 0), (2, 2)), ("row", sums, "=", 3), False)
        self.check(((0, 0), (2, 2)), ("row", (), "=", 0), True)
        self.check(((0, 0), (2, 2)), ("row", (), "=", 1), False)
        self.check(((0, 0), (2, 2)), ("any", ((0, "=", 1), (1, "<=", 1))), True)
        self.check(((0, 0), (2, 2)), ("any", ((0, "=", 3), (1, "<=", 1))), False)
        self.check(((0, 0), (2, 1)), ("any", ((0, "=", 3), (1, "<=", 1))), True)

    def test_when(self):
        for relation, rhs, sure, neither in (
            ("<=", 2, True, True), ("<=", 1, False, True), ("<=", -1, False, False), (">=", 1, False, True),
            (">=", 3, False, False), ("=", 0, False, True), ("=", 3, False, False), ("=", -1, False, False),
        ):
            body = ("when", (0, ">=", 2), ((1, 1),), relation, rhs)
            self.check(((2, 0), (4, 2)), body, sure)
            self.check(((1, 0), (4, 2)), body, neither)
            self.check(((0, 0), (1, 2)), body, True)
        # To keep the opposite of "=" asks for the ends only, to keep that of "!=" for all values.
        for literal, low, high, expected in (
            ((0, "=", 2), 1, 3, True), ((0, "=", 2), 2, 3, False), ((0, "=", 2), 1, 2, False),
            ((0, "=", 2), 2, 2, False), ((0, "!=", 2), 2, 2, True), ((0, "!=", 2), 2, 3, False),
            ((0, "!=", 2), 1, 3, False), ((0, "!=", 2), 3, 4, False), ((0, "<=", 2), 3, 3, True),
        ):
            self.check(((low, 0), (high, 0)), ("when", literal, ((1, 1),), ">=", 1), expected)

    def test_different(self):
        body = ("different", (2, 0, 1))
        self.check(((0, 0, 0), (3, 3, 3)), body, True)
        self.check(((1, 0, 0), (1, 3, 3)), body, True)
        self.check(((0, 0, 0), (0, 3, 3)), body, False)
        self.check(((3, 0, 0), (3, 3, 3)), body, False)
        self.check(((1, 2, 0), (1, 2, 3)), body, True)
        self.check(((1, 0, 0), (1, 0, 3)), body, False)
        self.check(((1, 2, 3), (1, 2, 3)), body, True)
        self.check(((1, 1, 3), (1, 1, 3)), body, False)
        self.check(((1, 0, 1), (1, 3, 1)), ("different", (0, 1)), True)

    def test_table_and_element(self):
        table = ("table", (1, 0), ((0, 3), (2, 1), (9, 2), (0, 3)))
        self.check(((1, 0), (3, 2)), table, True)
        self.check(((1, 0), (3, 3)), table, False)
        self.check(((0, 0), (3, 2)), table, False)
        self.check(((1, 2), (1, 2)), table, True)
        self.check(((2, 0), (2, 8)), table, False)
        element = ("element", 0, (4, 2, 7), 1)
        self.check(((0, 2), (2, 7)), element, True)
        self.check(((0, 2), (3, 7)), element, False)
        self.check(((0, 2), (1, 4)), element, True)
        self.check(((0, 2), (2, 4)), element, False)
        self.check(((2, 3), (2, 6)), element, False)
        self.check(((1,), (3,)), ("element", 0, (5, 1, 0, 3), 0), True)
        self.check(((0,), (3,)), ("element", 0, (5, 1, 0, 3), 0), False)

    def test_times(self):
        self.check(((1, 1, 1), (3, 3, 9)), ("times", 0, 1, 2), True)
        self.check(((1, 1, 1), (3, 3, 8)), ("times", 0, 1, 2), False)
        self.check(((2, -2, -4), (2, 3, 6)), ("times", 0, 1, 2), True)
        self.check(((0, 0), (1, 1)), ("times", 0, 0, 0), True)
        self.check(((0, 0), (2, 1)), ("times", 0, 0, 0), False)
        self.check(((-2, 0), (2, 4)), ("times", 0, 0, 1), True)
        self.check(((-2, 1), (2, 4)), ("times", 0, 0, 1), True)
        self.check(((-1, 2), (2, 4)), ("times", 0, 0, 1), False)
        self.check(((0, 0), (3, 1)), ("times", 0, 1, 0), True)
        self.check(((1, 0), (3, 1)), ("times", 0, 1, 0), False)
        self.check(((1, 1), (3, 1)), ("times", 0, 1, 0), True)
        self.check(((1, 0), (1, 3)), ("times", 0, 1, 1), True)

    def test_times_with_many_values(self):
        body = ("times", 0, 1, 2)
        self.check(((1, 1, 900), (20, 20, 900)), body, False)
        self.check(((1, 1, 900), (20, 21, 900)), body, True)
        self.check(((1, 1, 900), (1, 400, 900)), body, False)
        self.check(((1, 1, 900), (1, 401, 900)), body, True)
        self.check(((1, -1), (400, -1)), ("times", 0, 0, 1), False)
        self.check(((1, -1), (401, -1)), ("times", 0, 0, 1), True)
        self.check(((1, 1), (20, 20)), ("times", 0, 1, 0), False)
        self.check(((1, 2), (20, 22)), ("times", 0, 1, 0), True)

    def test_random_bodies(self):
        rng = random.Random(96)
        seen = {}
        for _ in range(3000):
            box = boxes.random_box(rng, BOUNDS)
            body = random_body(rng, 3)
            consistent = body_consistent(box, body)
            self.assertIs(consistent, boxes.body_ok(box, body), (box, body))
            seen[body[0], consistent] = seen.get((body[0], consistent), 0) + 1
        self.assertEqual(len(seen), 14)
        self.assertGreater(min(seen.values()), 8, seen)


def one_off(box, ok, rng):
    """Return the box without one of its end values, such that all consistent boxes in it still lie in it, or None."""
    ends = [(v, side) for v in range(len(box[0])) for side in (0, 1)]
    rng.shuffle(ends)
    bounds = list(zip(*box))
    for v, side in ends:
        kept = [each for each in boxes.boxes_in(bounds) if each[side][v] == box[side][v] and ok(each)]
        if not kept:
            changed = [list(box[0]), list(box[1])]
            changed[side][v] += 1 if side == 0 else -1
            return (tuple(changed[0]), tuple(changed[1]))
    return None


class NarrowBoxTest(unittest.TestCase):
    def check(self, model, facts, expected):
        told, given = model.told(), list(facts)
        self.assertEqual(narrow_box(model, facts), expected)
        self.assertEqual((model.told(), facts), (told, given))
        self.assertEqual(narrow_box(model, facts[::-1]), expected)
        other = made([(low, high) for _, low, high in told[0]], **dict(told[1][::-1]))
        self.assertEqual(narrow_box(other, facts), expected)

    def test_fixed_models(self):
        self.check(made([(0, 9), (0, 9)]), [], ((0, 0), (9, 9)))
        self.check(made([(0, 9), (0, 9)], r=("row", ((0, 1), (1, 1)), "<=", 4)), [], ((0, 0), (4, 4)))
        self.check(made([(0, 9), (0, 9)], r=("row", ((0, 1), (1, 1)), "<=", 4)), [row(-3, (0, -1))], ((3, 0), (4, 1)))
        self.check(made([(0, 9), (0, 9)], t=("times", 0, 1, 0)), [clause((0, "!=", 0))], ((1, 1), (9, 1)))
        self.check(made([(0, 9), (0, 9)]), [clause((0, "!=", 0)), clause((0, "!=", 1)), clause((0, "!=", 9))],
                   ((2, 0), (8, 9)))

    def test_no_consistent_box(self):
        for facts in (
            [NEVER], [row(-1)], [clause((0, "<=", 3)), clause((0, ">=", 4))], [clause((0, ">=", 10))],
            [clause((0, "=", 3)), clause((0, "!=", 3))], [row(-1, (0, 1), (1, 1))],
        ):
            self.check(made([(0, 9), (0, 9)]), facts, None)
        self.check(made([(0, 9), (0, 9)], r=("row", ((0, 2), (1, -2)), "=", 1)), [], None)
        self.check(made([(2, 2), (2, 2)], d=("different", (0, 1))), [], None)
        self.check(made([(0, 1)] * 3, d=("different", (0, 1, 2))), [clause((0, "=", 0))], None)

    def test_one_value_after_the_other(self):
        less = {"a": ("row", ((0, 1), (1, -1)), "<=", -1), "b": ("row", ((0, -1), (1, 1)), "<=", -1)}
        self.check(made([(-1000, 1000), (-1000, 1000)], **less), [], None)
        twice = {"r": ("row", ((0, 2), (1, -2)), "<=", -1), "s": ("row", ((0, -3), (1, 3)), "<=", 2)}
        self.check(made([(-1000, 1000), (-1000, 1000)], **twice), [], None)
        step = {"a": ("row", ((0, 1), (1, -1)), "<=", -1), "b": ("row", ((0, -1), (1, 1), (2, -5)), "<=", -1)}
        self.check(made([(-500, 500), (-500, 500), (0, 1)], **step), [], ((-500, -499, 0), (499, 500, 1)))
        many = [clause((0, "!=", a)) for a in range(-200, 200)]
        self.check(made([(-200, 200)]), many, ((200,), (200,)))

    def test_many_bounds(self):
        facts = [row(2000 - k, (0, 1)) for k in range(1500)] + [row(k, (1, -1)) for k in range(1500)]
        self.check(made([(-1000, 1000), (-1000, 1000)], r=("row", ((0, 1), (1, -1)), "=", 0)), facts,
                   ((0, 0), (501, 501)))

    def test_random_models_against_all_boxes(self):
        rng = random.Random(97)
        inside = boxes.boxes_in(BOUNDS)
        nones = 0
        for _ in range(400):
            model = random_model(rng, "abc"[:rng.randint(0, 3)])
            facts = [random_fact(rng, [0, 1, 2]) for _ in range(rng.randint(0, 2))]
            consistent = [box for box in inside if boxes.all_ok(box, model, facts)]
            expected = boxes.greatest(consistent)
            if expected is None:
                nones += 1
            else:
                self.assertIn(expected, consistent)
                self.assertTrue(all(boxes.lies_in(box, expected) for box in consistent))
            self.check(model, facts, expected)
            for point in plain_solutions(model):
                if all(naive.holds(fact, point) for fact in facts):
                    self.assertTrue(boxes.lies_in((point, point), expected))
        self.assertTrue(80 < nones < 320, nones)

    def test_cutting_off_ends_in_several_orders(self):
        rng = random.Random(970)
        for _ in range(25):
            bounds = [(-2, 2), (0, 3)]
            model = random_model(rng, "abc", bounds)
            facts = [random_fact(rng, [0, 1]) for _ in range(rng.randint(0, 2))]
            for _ in range(3):
                box = tuple(zip(*bounds))
                conditions = [body for _, body in model.told()[1]] + [("row", f[1], "<=", f[2]) if f[0] == "row" else f
                                                                      for f in facts]
                box = self.cut_off(rng, box, conditions)
                self.assertEqual(narrow_box(model, facts), box)

    def cut_off(self, rng, box, conditions):
        """Cut off one end after the other, for which one condition alone has no use."""
        while True:
            rng.shuffle(conditions)
            for body in conditions:
                cut = one_off(box, lambda each: boxes.body_ok(each, body), rng)
                if cut is not None:
                    break
            else:
                return box
            if any(low > high for low, high in zip(*cut)):
                return None
            box = cut


if __name__ == "__main__":
    unittest.main()
