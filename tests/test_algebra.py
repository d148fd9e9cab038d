"""Promises [107], [108] and [112]: diagrams made from diagrams."""

import copy
import random
import unittest

from commonground.diagram.algebra import difference, join, meet, pinned
from commonground.diagram.build import diagram_from, diagram_of
from tests.diagrams import check_points, points_within, random_points
from tests.makers import made, plain_solutions

PAIRS = ((-1, 1), (0, 3), (2, 2), (0, 1))


class AlgebraTest(unittest.TestCase):
    def check_made(self, diagram, pairs, points):
        check_points(self, diagram, pairs, points)
        self.assertEqual(diagram, diagram_from(pairs, sorted(points)))

    def check(self, pairs, first, second):
        """Check all three of the diagrams of these points."""
        one, other = diagram_from(pairs, list(first)), diagram_from(pairs, list(second))
        kept = copy.deepcopy((one, other))
        first, second = set(first), set(second)
        self.check_made(meet(one, other), pairs, first & second)
        self.check_made(join(one, other), pairs, first | second)
        self.check_made(difference(one, other), pairs, first - second)
        self.check_made(difference(other, one), pairs, second - first)
        self.assertEqual(meet(one, other), meet(other, one))
        self.assertEqual(join(one, other), join(other, one))
        self.assertEqual((one, other), kept)

    def test_disjoint(self):
        inside = points_within(PAIRS)
        self.check(PAIRS, inside[::2], inside[1::2])
        self.check(PAIRS, inside[:7], inside[7:12])

    def test_equal(self):
        inside = points_within(PAIRS)
        for points in (inside, inside[::3], inside[:1], []):
            self.check(PAIRS, points, points)

    def test_nested(self):
        inside = points_within(PAIRS)
        self.check(PAIRS, inside, inside[::5])
        self.check(PAIRS, inside[::2], inside[::4])
        self.check(PAIRS, inside, inside[-1:])

    def test_empty(self):
        inside = points_within(PAIRS)
        self.check(PAIRS, [], inside)
        self.check(PAIRS, inside[3:5], [])

    def test_one_unknown(self):
        self.check(((0, 3),), [(0,), (2,)], [(2,), (3,)])
        self.check(((5, 5),), [(5,)], [])
        self.check(((5, 5),), [(5,)], [(5,)])

    def test_random_points(self):
        rng = random.Random(112)
        for _ in range(150):
            pairs = tuple((low, low + rng.randint(0, 3)) for low in (-2, 0, 1)[:rng.randint(1, 3)])
            self.check(pairs, random_points(rng, pairs), random_points(rng, pairs))

    def test_models(self):
        first = made([(0, 3), (0, 3)], r=("row", ((0, 1), (1, 1)), "<=", 4))
        second = made([(0, 3), (0, 3)], d=("different", (0, 1)))
        both = made([(0, 3), (0, 3)], r=("row", ((0, 1), (1, 1)), "<=", 4), d=("different", (0, 1)))
        self.assertEqual(meet(diagram_of(first), diagram_of(second)), diagram_of(both))
        self.assertEqual(join(diagram_of(first), diagram_of(both)), diagram_of(first))


class PinnedTest(unittest.TestCase):
    def check(self, pairs, points, v, a):
        diagram = diagram_from(pairs, points)
        kept = copy.deepcopy(diagram)
        found = pinned(diagram, v, a)
        check_points(self, found, pairs, [point for point in points if point[v] == a])
        self.assertEqual(found, diagram_from(pairs, [point for point in points if point[v] == a]))
        self.assertEqual(diagram, kept)

    def test_within_and_beyond_the_bounds(self):
        rng = random.Random(1120)
        for points in ([], points_within(PAIRS), random_points(rng, PAIRS), random_points(rng, PAIRS)):
            for v, (low, high) in enumerate(PAIRS):
                for a in list(range(low - 2, high + 3)) + [-10 ** 30, 10 ** 30]:
                    self.check(PAIRS, points, v, a)

    def test_random_points(self):
        rng = random.Random(1121)
        for _ in range(100):
            pairs = tuple((low, low + rng.randint(0, 3)) for low in (-2, 0, 1)[:rng.randint(1, 3)])
            self.check(pairs, random_points(rng, pairs), rng.randrange(len(pairs)), rng.randint(-3, 5))

    def test_pinned_models(self):
        model = made([(0, 3), (0, 3), (0, 3)], d=("different", (0, 1, 2)))
        diagram = diagram_of(model)
        for a in range(4):
            rest = [point for point in plain_solutions(model) if point[1] == a]
            self.assertEqual(pinned(diagram, 1, a), diagram_from(diagram[0], rest))
        self.assertEqual(pinned(pinned(diagram, 1, 2), 1, 3)[1], ((), (), ()))


if __name__ == "__main__":
    unittest.main()
