"""Promises [73] to [76]: boxes, the rest after facts, the clause against a box, and support."""

import random
import unittest

from commonground.model.body import body_fits
from commonground.workers.boxes import clause_against, has_support, in_box, rest_after, support_cost, whole_box
from tests import naive
from tests.makers import NEVER, clause, made, points_in, random_body, random_fact, row

BOUNDS = [(0, 4), (-3, 5), (2, 2)]


class BoxTest(unittest.TestCase):
    def test_the_whole_box(self):
        self.assertEqual(whole_box(made(BOUNDS)), ((0, -3, 2), (4, 5, 2)))
        self.assertEqual(whole_box(made([(-1000, 1000)])), ((-1000,), (1000,)))
        model = made(BOUNDS)
        model.move(1, 0, 1)
        self.assertEqual(whole_box(model), ((0, 0, 2), (4, 1, 2)))

    def test_in_box(self):
        box = ((0, -3, 2), (4, 5, 2))
        for point in ((0, -3, 2), (4, 5, 2), (0, 5, 2), (2, 0, 2)):
            self.assertIs(in_box(box, point), True)
        for point in ((-1, 0, 2), (5, 0, 2), (0, -4, 2), (0, 6, 2), (0, 0, 1), (0, 0, 3)):
            self.assertIs(in_box(box, point), False)


class RestTest(unittest.TestCase):
    def check(self, facts, expected):
        model = made(BOUNDS)
        given = list(facts)
        self.assertEqual(rest_after(model, given), expected)
        self.assertEqual(given, facts)
        self.assertEqual(rest_after(model, given[::-1]), expected)

    def test_no_facts(self):
        self.check([], ((0, -3, 2), (4, 5, 2)))

    def test_each_relation(self):
        self.check([clause((0, "<=", 3))], ((0, -3, 2), (3, 5, 2)))
        self.check([clause((0, ">=", 3))], ((3, -3, 2), (4, 5, 2)))
        self.check([clause((0, "=", 3))], ((0, -3, 2), (4, 5, 2)))
        self.check([clause((0, "!=", 4))], ((0, -3, 2), (4, 5, 2)))

    def test_rows_are_rounded(self):
        self.check([row(7, (1, 2))], ((0, -3, 2), (4, 3, 2)))
        self.check([row(-3, (1, 2))], ((0, -3, 2), (4, -2, 2)))
        self.check([row(3, (1, -2))], ((0, -1, 2), (4, 5, 2)))
        self.check([row(-3, (1, -2))], ((0, 2, 2), (4, 5, 2)))

    def test_facts_that_are_not_considered(self):
        self.check([NEVER, row(-1), row(3, (0, 1), (1, 1)), clause((0, "<=", 1), (0, "<=", 1))],
                   ((0, -3, 2), (4, 5, 2)))

    def test_the_greatest_and_the_least(self):
        self.check([clause((0, "<=", 3)), clause((0, "<=", 1)), clause((0, "<=", 2)), row(9, (0, 1))],
                   ((0, -3, 2), (1, 5, 2)))
        self.check([clause((1, ">=", -1)), clause((1, ">=", 1)), row(0, (1, -1)), clause((1, ">=", -9))],
                   ((0, 1, 2), (4, 5, 2)))
        self.check([clause((1, ">=", 1)), clause((1, "<=", 1))], ((0, 1, 2), (4, 1, 2)))

    def test_none(self):
        self.check([clause((1, ">=", 2)), clause((1, "<=", 1))], None)
        self.check([clause((0, "<=", -1))], None)
        self.check([clause((0, ">=", 5)), clause((1, "<=", 1))], None)
        self.check([row(-1, (2, 1))], None)

    def test_random_facts(self):
        rng = random.Random(74)
        nones = 0
        for _ in range(300):
            bounds = [(-1, 3), (0, 4), (-2, 2)]
            facts = [random_fact(rng, [0, 1, 2]) for _ in range(rng.randint(0, 6))]
            sides = [f for f in facts if naive.literal_test(f) and (f[0] == "row" or f[1][0][1] in ("<=", ">="))]
            left = [p for p in points_in(bounds) if all(naive.holds(f, p) for f in sides)]
            box = rest_after(made(bounds), facts)
            if box is None:
                self.assertEqual(left, [])
                nones += 1
            else:
                self.assertEqual([p for p in points_in(bounds) if in_box(box, p)], left)
                self.assertTrue(left)
        self.assertTrue(20 < nones < 280, nones)


class ClauseTest(unittest.TestCase):
    MODEL = made(BOUNDS)

    def check(self, box, unknowns, *literals):
        self.assertEqual(clause_against(self.MODEL, box, unknowns), clause(*literals))

    def test_at_the_bounds_of_the_model(self):
        self.check(((0, -3, 2), (4, 5, 2)), [0, 1, 2])
        self.check(((1, -3, 2), (4, 5, 2)), [0, 1, 2], (0, "<=", 0))
        self.check(((0, -3, 2), (3, 5, 2)), [0, 1, 2], (0, ">=", 4))
        self.check(((2, -3, 2), (2, 5, 2)), [0, 1, 2], (0, "<=", 1), (0, ">=", 3))

    def test_several_unknowns(self):
        box = ((1, -2, 2), (3, 0, 2))
        self.check(box, [0, 1, 2], (0, "<=", 0), (0, ">=", 4), (1, "<=", -3), (1, ">=", 1))
        self.check(box, [1], (1, "<=", -3), (1, ">=", 1))
        self.check(box, [0, 2], (0, "<=", 0), (0, ">=", 4))
        self.check(box, [2])
        self.check(box, [])

    def test_where_it_holds(self):
        rng = random.Random(75)
        for _ in range(100):
            lows, highs = zip(*[sorted((rng.randint(low, high), rng.randint(low, high))) for low, high in BOUNDS])
            unknowns = sorted(rng.sample(range(3), rng.randint(0, 3)))
            fact = clause_against(self.MODEL, (lows, highs), unknowns)
            for point in points_in(BOUNDS):
                outside = any(not lows[v] <= point[v] <= highs[v] for v in unknowns)
                self.assertIs(naive.holds(fact, point), outside)


class SupportTest(unittest.TestCase):
    def check(self, body, box, cost, supported):
        self.assertTrue(body_fits(body, len(box[0])))
        self.assertEqual(support_cost(body, box), cost)
        self.assertIs(has_support(body, box), supported)

    def test_row(self):
        box = ((0, 1, 0), (2, 3, 9))
        terms = ((0, 2), (1, -1))
        for relation, rhs, supported in (
            ("<=", -3, True), ("<=", -4, False), (">=", 3, True), (">=", 4, False),
            ("=", -3, True), ("=", 3, True), ("=", 0, True), ("=", -4, False), ("=", 4, False),
        ):
            self.check(("row", terms, relation, rhs), box, 9, supported)
        self.check(("row", ((0, 2), (2, 4)), "=", 7), box, 30, False)
        self.check(("row", ((0, 2), (2, 4)), "=", 6), box, 30, True)
        self.check(("row", ((0, 6), (1, 10), (2, 15)), "=", 29 + 10), box, 90, False)
        self.check(("row", (), "<=", 0), box, 1, True)
        self.check(("row", (), "=", 1), box, 1, False)

    def test_equations_with_gaps(self):
        for terms, reached in (
            (((0, 1), (1, 3)), (0, 1, 3, 4)), (((0, 1), (1, -3)), (-3, -2, 0, 1)), (((0, 2), (1, 6)), (0, 2, 6, 8)),
            (((0, 1), (1, 3), (2, 9)), (0, 1, 3, 4, 9, 10, 12, 13)), (((0, 3), (1, 3), (2, 4)), (0, 3, 4, 6, 7, 10)),
            (((0, 1), (1, 2), (2, 5)), (0, 1, 2, 3, 5, 6, 7, 8)),
        ):
            for rhs in range(-5, 15):
                self.check(("row", terms, "=", rhs), ((0, 0, 0), (1, 1, 1)), 2 ** len(terms), rhs in reached)

    def test_equations_in_great_boxes(self):
        box = ((-1000,) * 60, (1000,) * 60)
        for terms, rhs, supported in (
            (tuple((v, v + 1) for v in range(60)), 12345, True),
            (tuple((v, 2 * v - 61) for v in range(60)), -12345, True),
            (tuple((v, 2 * v + 2) for v in range(60)), 12345, False),
            (tuple((v, 6 * (-1) ** v) for v in range(60)), 360000, True),
            (tuple((v, 6 * (-1) ** v) for v in range(60)), 360006, False),
            (((0, 1000000), (1, 999999)), 500000, False),
            (((0, 1000000), (1, 999999)), 1999999, True),
        ):
            self.check(("row", terms, "=", rhs), box, 2001 ** len(terms), supported)

    def test_any(self):
        box = ((0, 1, 5), (2, 3, 5))
        for literal, supported in (
            ((0, "<=", 0), True), ((0, "<=", -1), False), ((0, ">=", 2), True), ((0, ">=", 3), False),
            ((0, "=", 1), True), ((0, "=", 3), False), ((0, "!=", 1), True), ((2, "!=", 5), False),
        ):
            cost = 3 if literal[0] == 0 else 1
            self.check(("any", (literal,)), box, cost, supported)
            self.check(("any", ((1, "=", 9), literal)), box, 3 * cost, supported)

    def test_when(self):
        box = ((0, 1, 0), (2, 3, 1))
        for literal, rhs, supported in (
            ((2, "=", 1), 4, True), ((2, "=", 1), 0, True), ((2, "<=", 1), 1, True), ((2, "<=", 1), 0, False),
            ((2, "=", 2), 0, True),
        ):
            self.check(("when", literal, ((0, 1), (1, 1)), "<=", rhs), box, 18, supported)
        self.check(("when", (0, ">=", 0), ((0, 2),), "=", 3), box, 3, False)
        self.check(("when", (0, ">=", 1), ((0, 2),), "=", 3), box, 3, True)

    def test_different(self):
        self.check(("different", (2, 0, 1)), ((0, 0, 0), (1, 1, 1)), 8, False)
        self.check(("different", (2, 0, 1)), ((0, 0, 0), (1, 2, 1)), 12, True)
        self.check(("different", (2, 0, 1)), ((1, 0, 1), (1, 3, 1)), 4, False)
        self.check(("different", (0, 2)), ((1, 1, 0), (1, 1, 1)), 2, True)
        many = tuple(range(20))
        self.check(("different", many), ((0,) * 20, (18,) * 20), 19 ** 20, False)
        self.check(("different", many), ((0,) * 20, (18,) * 19 + (19,)), 19 ** 19 * 20, True)
        self.check(("different", many), ((-1000,) * 20, (1000,) * 20), 2001 ** 20, True)

    def test_table(self):
        rows = ((1, 2), (3, 4), (1, 2))
        self.check(("table", (2, 0), rows), ((2, 0, 1), (2, 9, 3)), 3, True)
        self.check(("table", (2, 0), rows), ((3, 0, 1), (3, 9, 3)), 3, False)
        self.check(("table", (2, 0), rows), ((4, 0, 1), (4, 9, 2)), 2, False)
        self.check(("table", (1,), ((5,),)), ((4, 0, 1), (4, 9, 2)), 10, True)

    def test_element(self):
        body = ("element", 0, (5, 7, 9), 1)
        self.check(body, ((-2, 0), (9, 9)), 120, True)
        self.check(body, ((1, 0), (9, 6)), 63, False)
        self.check(body, ((3, 0), (9, 9)), 70, False)
        self.check(body, ((-9, 0), (-1, 9)), 90, False)
        self.check(body, ((2, 9), (2, 9)), 1, True)

    def test_element_with_equal_unknowns(self):
        body = ("element", 0, (1, 2, 2, 0), 0)
        self.check(body, ((0,), (3,)), 4, True)
        self.check(body, ((2,), (2,)), 1, True)
        self.check(body, ((0,), (1,)), 2, False)
        self.check(body, ((3,), (9,)), 7, False)

    def test_times(self):
        body = ("times", 0, 1, 2)
        self.check(body, ((2, 3, 0), (3, 4, 9)), 40, True)
        self.check(body, ((2, 3, 10), (3, 4, 11)), 8, False)
        self.check(body, ((2, 3, 7), (3, 4, 7)), 4, False)
        self.check(body, ((-3, 2, -9), (-2, 5, -8)), 16, True)
        self.check(body, ((-3, 2, 1), (-2, 5, 9)), 72, False)
        self.check(body, ((0, 2, 1), (0, 5, 9)), 36, False)
        self.check(body, ((-1000,) * 3, (1000,) * 3), 2001 ** 3, True)
        self.check(body, ((500, 3, -1000), (1000, 1000, 1000)), 501 * 998 * 2001, False)

    def test_times_with_equal_unknowns(self):
        self.check(("times", 0, 0, 1), ((-3, 5), (3, 8)), 28, False)
        self.check(("times", 0, 0, 1), ((-3, 5), (3, 9)), 35, True)
        self.check(("times", 0, 1, 0), ((2, 2), (5, 5)), 16, False)
        self.check(("times", 0, 1, 0), ((2, 1), (5, 5)), 20, True)
        self.check(("times", 0, 1, 0), ((0, 2), (5, 5)), 24, True)
        self.check(("times", 0, 1, 1), ((2, 2), (5, 5)), 16, False)
        self.check(("times", 0, 1, 1), ((1, 2), (5, 5)), 20, True)
        self.check(("times", 0, 1, 1), ((2, -2), (5, 5)), 32, True)
        self.check(("times", 0, 0, 0), ((2,), (5,)), 4, False)
        self.check(("times", 0, 0, 0), ((1,), (5,)), 5, True)
        self.check(("times", 0, 0, 0), ((-3,), (-1,)), 3, False)

    def test_random_bodies(self):
        rng = random.Random(76)
        kinds = {}
        for _ in range(4000):
            many = rng.randint(2, 4)
            body = random_body(rng, many)
            if rng.random() < 0.2:
                coefs = [rng.choice((-15, -10, -7, -6, -4, -3, 2, 3, 5, 6, 9, 10, 15)) for _ in range(many)]
                body = ("row", tuple(enumerate(coefs)), "=", rng.randint(-40, 40))
            lows = tuple(rng.randint(-3, 3) for _ in range(many))
            highs = tuple(low + rng.randint(0, 3) for low in lows)
            cost = 1
            for v in naive.body_unknowns(body):
                cost *= highs[v] - lows[v] + 1
            supported = any(naive.body_is_met(body, p) for p in points_in(list(zip(lows, highs))))
            self.check(body, (lows, highs), cost, supported)
            kinds[body[0], supported] = kinds.get((body[0], supported), 0) + 1
        self.assertEqual(len(kinds), 14)
        self.assertGreater(min(kinds.values()), 4, kinds)


if __name__ == "__main__":
    unittest.main()
