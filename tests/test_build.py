"""Promises [107], [108] and [110]: diagrams, their normal shape, and building."""

import random
import unittest

from commonground.diagram.build import diagram_from, diagram_of
from commonground.errors import TooLarge
from tests.diagrams import check_points, points_within, random_points
from tests.makers import made, plain_solutions, points_in, random_linear_model, random_model


class FromTest(unittest.TestCase):
    def check(self, pairs, points, layers):
        given = list(points)
        self.assertEqual(diagram_from(pairs, given), (pairs, layers))
        self.assertEqual(given, list(points))
        check_points(self, (pairs, layers), pairs, points)

    def test_no_point(self):
        self.check(((0, 1),), [], ((),))
        self.check(((0, 1), (-5, 5), (3, 3)), [], ((), (), ()))

    def test_one_point(self):
        self.check(((0, 1),), [(1,)], (((-1, 0),),))
        self.check(((0, 1), (3, 3), (-1, 1)), [(0, 3, 1)], (((0, -1),), ((0,),), ((-1, -1, 0),)))

    def test_all_points(self):
        pairs = ((0, 1), (3, 3), (-1, 1))
        self.check(pairs, points_within(pairs), (((0, 0),), ((0,),), ((0, 0, 0),)))

    def test_equal_nodes_are_one(self):
        # Behind 0 and behind 2 the same follows, and behind 1 nothing.
        points = [(0, 1), (0, 2), (2, 1), (2, 2)]
        self.check(((0, 2), (0, 2)), points, (((0, -1, 0),), ((-1, 0, 0),)))
        points = [(0, 0, 1), (0, 1, 0), (1, 0, 0), (1, 1, 1)]
        self.check(((0, 1),) * 3, points, (((0, 1),), ((0, 1), (1, 0)), ((-1, 0), (0, -1))))

    def test_the_order_of_the_nodes(self):
        points = [(0, 2), (1, 0), (1, 1), (2, 2), (3, 0)]
        self.check(((0, 3), (0, 2)), points, (((0, 1, 0, 2),), ((-1, -1, 0), (0, 0, -1), (0, -1, -1))))

    def test_order_and_repetitions(self):
        rng = random.Random(108)
        for _ in range(100):
            pairs = ((-1, 1), (0, 3), (2, 2), (0, 1))
            points = random_points(rng, pairs)
            diagram = diagram_from(pairs, points)
            check_points(self, diagram, pairs, points)
            again = points + rng.choices(points, k=5) if points else []
            rng.shuffle(again)
            self.assertEqual(diagram_from(pairs, again), diagram)

    def test_different_points_have_different_diagrams(self):
        pairs = ((0, 1), (0, 2))
        inside = points_within(pairs)
        found = {diagram_from(pairs, [p for k, p in enumerate(inside) if chosen >> k & 1]) for chosen in range(64)}
        self.assertEqual(len(found), 64)

    def test_changes_of_the_list_have_no_effect(self):
        points = [(0, 1), (1, 0)]
        diagram = diagram_from(((0, 1), (0, 1)), points)
        points.clear()
        self.assertEqual(diagram, (((0, 1), (0, 1)), (((0, 1),), ((-1, 0), (0, -1)))))


class ModelTest(unittest.TestCase):
    def check(self, model):
        told = model.told()
        diagram = diagram_of(model)
        self.assertEqual(model.told(), told)
        pairs = tuple((low, high) for _, low, high in told[0])
        check_points(self, diagram, pairs, plain_solutions(model))
        self.assertEqual(diagram_from(pairs, plain_solutions(model)), diagram)
        return diagram

    def test_no_constraints(self):
        self.assertEqual(self.check(made([(0, 1), (5, 7)])), (((0, 1), (5, 7)), (((0, 0),), ((0, 0, 0),))))

    def test_no_solution(self):
        for body in (("row", (), "<=", -1), ("row", ((0, 2), (1, 2)), "=", 1), ("any", ((0, "=", 9),)),
                     ("table", (0, 1), ((0, 9),))):
            self.assertEqual(self.check(made([(0, 2), (0, 2)], b=body))[1], ((), ()))

    def test_other_constraints_with_the_same_solutions(self):
        for first, second in (
            ({"r": ("row", ((0, 1), (1, 1)), "=", 2)}, {"t": ("table", (1, 0), ((1, 1), (0, 2), (2, 0), (9, 9)))}),
            ({"d": ("different", (0, 1))}, {f"a{a}": ("any", ((0, "!=", a), (1, "!=", a))) for a in range(3)}),
            ({"w": ("when", (0, "=", 1), ((1, 1),), "<=", 0)}, {"a": ("any", ((0, "!=", 1), (1, "=", 0)))}),
            ({"e": ("element", 0, (0, 1, 2), 1)}, {"r": ("row", ((0, 1), (1, -1)), "=", 0)}),
            ({"t": ("times", 0, 0, 1)}, {"t": ("table", (0, 1), ((0, 0), (1, 1)))}),
            ({"r": ("row", (), "<=", 0)}, {}),
        ):
            model = made([(0, 2), (0, 2)], **first)
            model.aim(("min", ((0, 1),), 7))
            self.assertEqual(self.check(model), self.check(made([(0, 2), (0, 2)], **second)))

    def test_random_models(self):
        rng = random.Random(110)
        seen = {True: 0, False: 0}
        for k in range(300):
            bounds = [(low, low + rng.randint(0, 4)) for low in (-2, -1, 0, 1)[:rng.randint(1, 4)]]
            if k % 4 == 0:
                model = random_linear_model(rng)
            elif len(bounds) == 1:
                model = made(bounds, a=("any", ((0, "!=", 0),)))
            else:
                model = random_model(rng, "abcd"[:rng.randint(0, 3)], bounds)
            seen[any(self.check(model)[1])] += 1
        self.assertGreater(min(seen.values()), 60, seen)

    def test_moved_bounds(self):
        model = made([(0, 2), (0, 2)], r=("row", ((0, 1), (1, 1)), "=", 2))
        self.check(model)
        model.move(0, -1, 1)
        self.check(model)

    def test_twenty_thousand_points_inside(self):
        sums = tuple((v, 1) for v in range(4))
        for bounds in ([(0, 9)] * 4 + [(0, 1)], [(-9, 190), (1, 100), (3, 3)]):
            model = made(bounds, r=("row", sums[:len(bounds)], "<=", 12), d=("different", (0, 1)))
            diagram = diagram_of(model)
            pairs = tuple(bounds)
            self.assertEqual(diagram, diagram_from(pairs, plain_solutions(model)))
        self.assertEqual(len(points_in(bounds)), 20000)

    def test_more_points(self):
        model = made([(0, 140), (0, 141)], r=("row", ((0, 1), (1, -1)), "=", 0))
        try:
            diagram = diagram_of(model)
        except TooLarge:
            return
        self.assertEqual(diagram, diagram_from(((0, 140), (0, 141)), [(a, a) for a in range(141)]))

    def test_many_unknowns(self):
        model = made([(0, 1)] * 14 + [(3, 3)] * 46, r=("row", tuple((v, v + 1) for v in range(14)), "=", 52),
                     s=("row", tuple((v, 1) for v in range(60)), "<=", 145))
        pairs, layers = diagram_of(model)
        self.assertEqual(len(layers), 60)
        expected = [p + (3,) * 46 for p in points_in([(0, 1)] * 14)
                    if sum(a * (v + 1) for v, a in enumerate(p)) == 52 and sum(p) <= 7]
        self.assertEqual((pairs, layers), diagram_from(pairs, expected))


if __name__ == "__main__":
    unittest.main()
