"""Promise [111]: reading diagrams."""

import inspect
import itertools
import random
import unittest

from commonground.diagram.build import diagram_from
from commonground.diagram.reading import (
    belongs, best_of, count, points_of, rank_of, size, solution_at, values_of,
)
from commonground.errors import NoSuch
from tests.diagrams import points_within, random_points

PAIRS = ((-1, 1), (0, 3), (2, 2), (0, 1))


def plain_best(points, goal):
    """Return the best value with the first point that has it, or None."""
    sense, terms, constant = goal
    values = [sum(c * point[v] for v, c in terms) + constant for point in points]
    if not values:
        return None
    worth = max(values) if sense == "max" else min(values)
    return worth, points[values.index(worth)]


class ReadingTest(unittest.TestCase):
    def check(self, pairs, points):
        """Check all that is read of the diagram of these points, which are ascending."""
        diagram = diagram_from(pairs, points)
        inside = points_within(pairs)
        for point in inside:
            self.assertIs(belongs(diagram, point), point in points)
            self.assertEqual(rank_of(diagram, point), points.index(point) if point in points else None)
        self.assertEqual(count(diagram), len(points))
        self.assertEqual(size(diagram), sum(len(layer) for layer in diagram[1]))
        self.assertEqual([solution_at(diagram, k) for k in range(len(points))], points)
        for k in (-1, len(points), len(points) + 1, -len(points) - 1, 10 ** 30):
            with self.assertRaises(NoSuch) as caught:
                solution_at(diagram, k)
            self.assertEqual(caught.exception.what, k)
        self.assertEqual(list(points_of(diagram)), points)
        for v in range(len(pairs)):
            self.assertEqual(values_of(diagram, v), sorted({point[v] for point in points}))
        for goal in (("max", (), 0), ("min", (), -7), ("max", ((0, 3),), 1), ("min", ((len(pairs) - 1, -1),), 0)):
            self.assertEqual(best_of(diagram, goal), plain_best(points, goal))

    def test_no_point(self):
        self.check(((0, 2),), [])
        self.check(PAIRS, [])

    def test_one_point(self):
        self.check(((0, 2),), [(1,)])
        self.check(PAIRS, [(-1, 0, 2, 0)])
        self.check(PAIRS, [(1, 3, 2, 1)])
        self.check(PAIRS, [(0, 2, 2, 1)])

    def test_all_points(self):
        self.check(((0, 2),), [(0,), (1,), (2,)])
        self.check(PAIRS, points_within(PAIRS))

    def test_random_points(self):
        rng = random.Random(111)
        for _ in range(60):
            pairs = tuple((low, low + rng.randint(0, 3)) for low in (-2, 0, 1)[:rng.randint(1, 3)])
            self.check(pairs, random_points(rng, pairs))

    def test_size(self):
        self.assertEqual(size(diagram_from(PAIRS, [])), 0)
        self.assertEqual(size(diagram_from(PAIRS, points_within(PAIRS))), 4)
        self.assertEqual(size(diagram_from(((0, 1), (0, 1)), [(0, 1), (1, 0)])), 3)


class PointsTest(unittest.TestCase):
    def test_stopped_early_and_asked_again(self):
        points = [(0, 1), (1, 0), (1, 1)]
        diagram = diagram_from(((0, 1), (0, 1)), points)
        found = points_of(diagram)
        self.assertTrue(inspect.isgenerator(found))
        self.assertEqual(next(found), (0, 1))
        other = points_of(diagram)
        self.assertEqual(list(itertools.islice(other, 2)), points[:2])
        self.assertEqual(list(points_of(diagram)), points)
        self.assertEqual(next(found), (1, 0))
        self.assertEqual(list(found), [(1, 1)])
        self.assertEqual(list(found), [])
        self.assertEqual(list(points_of(diagram_from(((0, 1),), []))), [])

    def test_not_all_points_are_made_first(self):
        pairs = ((0, 999),) * 60
        diagram = (pairs, tuple((((0,) * 1000),) for _ in range(60)))
        self.assertEqual(list(itertools.islice(points_of(diagram), 3)), [(0,) * 59 + (k,) for k in range(3)])
        self.assertEqual(count(diagram), 1000 ** 60)
        self.assertEqual(solution_at(diagram, 1000 ** 59 * 7 + 5), (7,) + (0,) * 58 + (5,))
        self.assertEqual(rank_of(diagram, (0,) * 58 + (3, 4)), 3004)
        self.assertEqual(best_of(diagram, ("max", ((0, 2), (3, -1)), 0)), (1998, (999,) + (0,) * 59))


class BestTest(unittest.TestCase):
    def test_several_best_points(self):
        points = [(0, 3), (1, 2), (2, 1), (3, 0), (3, 1)]
        diagram = diagram_from(((0, 3), (0, 3)), points)
        for goal, best in (
            (("max", ((0, 1), (1, 1)), 10), (14, (3, 1))), (("min", ((0, 1), (1, 1)), 10), (13, (0, 3))),
            (("max", ((0, 1),), 0), (3, (3, 0))), (("min", ((1, -2),), 0), (-6, (0, 3))),
            (("max", (), 5), (5, (0, 3))), (("min", (), 5), (5, (0, 3))), (("max", ((1, -1),), 0), (0, (3, 0))),
            (("min", ((0, -1), (1, -1)), 0), (-4, (3, 1))), (("max", ((0, 10 ** 6),), 10 ** 9), (1003000000, (3, 0))),
        ):
            self.assertEqual(best_of(diagram, goal), best)

    def test_random_goals(self):
        rng = random.Random(1110)
        for _ in range(300):
            pairs = ((-2, 1), (0, 2), (0, 2))
            points = random_points(rng, pairs)
            terms = tuple((v, rng.choice((-2, -1, 1, 2))) for v in range(3) if rng.random() < 0.7)
            goal = (rng.choice(("max", "min")), terms, rng.randint(-5, 5))
            self.assertEqual(best_of(diagram_from(pairs, points), goal), plain_best(points, goal))


if __name__ == "__main__":
    unittest.main()
