"""Promise [20]: plain looking."""

import itertools
import unittest

from commonground.errors import TooLarge
from commonground.model.model import Model
from commonground.model.plain import best_plain, solutions


def made(sense="max", terms=((0, 1), (1, 2), (2, -1))):
    model = Model((("x", -1, 2), ("y", 0, 3), ("z", -2, 0)))
    model.put("a", ("row", ((0, 1), (1, 1)), "<=", 3))
    model.put("b", ("different", (2, 0)))
    model.put("c", ("any", ((1, ">=", 2), (2, "=", -1))))
    model.aim((sense, terms, 10))
    return model


class SolutionsTest(unittest.TestCase):
    def test_all_in_ascending_order(self):
        expected = [
            (x, y, z)
            for x, y, z in itertools.product(range(-1, 3), range(0, 4), range(-2, 1))
            if x + y <= 3 and x != z and (y >= 2 or z == -1)
        ]
        self.assertEqual(solutions(made()), expected)
        self.assertGreater(len(expected), 5)

    def test_without_constraints_all_points(self):
        model = Model((("x", 3, 3), ("y", -1, 1)))
        self.assertEqual(solutions(model), [(3, -1), (3, 0), (3, 1)])

    def test_no_solution(self):
        model = made()
        model.put("d", ("row", (), "<=", -1))
        self.assertEqual(solutions(model), [])
        self.assertIsNone(best_plain(model))

    def test_a_new_list_each_time(self):
        model = made()
        found = solutions(model)
        count = len(found)
        found.clear()
        self.assertEqual(len(solutions(model)), count)

    def test_nothing_is_changed(self):
        model = made()
        before = model.told()
        solutions(model)
        best_plain(model)
        self.assertEqual(model.told(), before)


class BestTest(unittest.TestCase):
    def test_both_senses(self):
        for sense, choose in (("max", max), ("min", min)):
            model = made(sense)
            worths = [x + 2 * y - z + 10 for x, y, z in solutions(model)]
            worth = choose(worths)
            expected = (worth, solutions(model)[worths.index(worth)])
            self.assertEqual(best_plain(model), expected)

    def test_of_several_the_first(self):
        for sense in ("max", "min"):
            model = made(sense, ())
            self.assertEqual(best_plain(model), (10, solutions(model)[0]))
        model = Model((("x", 0, 3), ("y", 0, 3)))
        model.aim(("max", ((0, 1), (1, 1)), 0))
        model.put("a", ("row", ((0, 1), (1, 1)), "<=", 2))
        self.assertEqual(best_plain(model), (2, (0, 2)))
        model.aim(("min", ((0, -1), (1, -1)), 0))
        self.assertEqual(best_plain(model), (-2, (0, 2)))


class SizeTest(unittest.TestCase):
    def test_20000_points_are_looked_at(self):
        model = Model((("x", 1, 200), ("y", -50, 49)))
        model.put("a", ("row", ((0, 1), (1, 1)), ">=", 249))
        model.aim(("max", ((0, 1),), 0))
        self.assertEqual(solutions(model), [(200, 49)])
        self.assertEqual(best_plain(model), (200, (200, 49)))

    def test_more_are_not(self):
        for unknowns in ((("x", 1, 200), ("y", -50, 50)), (("x", -1000, 1000), ("y", 0, 9)),
                         tuple((f"x{k}", -1000, 1000) for k in range(60))):
            model = Model(unknowns)
            # Not even if it is plain that there is no solution.
            model.put("a", ("row", (), "<=", -1))
            with self.assertRaises(TooLarge):
                solutions(model)
            with self.assertRaises(TooLarge):
                best_plain(model)

    def test_20001_points(self):
        # 20001 is 3 * 59 * 113.
        model = Model((("x", 0, 2), ("y", 0, 58), ("z", 0, 112)))
        with self.assertRaises(TooLarge):
            solutions(model)

    def test_present_bounds_count(self):
        model = Model((("x", 1, 200), ("y", -50, 50)))
        model.move(1, 0, 0)
        self.assertEqual(len(solutions(model)), 200)


if __name__ == "__main__":
    unittest.main()
