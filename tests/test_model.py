"""Promises [3], [5], [7] and [15] to [19]: models."""

import itertools
import unittest

from commonground.errors import BadModel, NoSuch, Taken, TooLarge
from commonground.model.model import Model

BODY = ("row", ((0, 1),), "<=", 3)
OTHER = ("any", ((1, "=", 2), (0, "!=", 0)))
BAD_BODY = ("row", ((0, 1),), "!=", 3)


def small():
    return Model((("x", 0, 4), ("y", -2, 3)))


def full(many=200):
    model = small()
    for k in range(many):
        model.put(f"c{k}", BODY)
    return model


class MakingTest(unittest.TestCase):
    def test_from_a_tuple_or_a_list(self):
        unknowns = [("x", 0, 4), ("y", -2, 3)]
        for given in (unknowns, tuple(unknowns)):
            model = Model(given)
            self.assertEqual(model.told(), ((("x", 0, 4), ("y", -2, 3)), (), ("max", (), 0)))
        unknowns.append(("z", 0, 0))
        self.assertEqual(model.many(), 2)

    def test_numbers_of_unknowns(self):
        for many, good in ((0, False), (1, True), (2, True), (60, True), (61, False)):
            unknowns = [(f"x{k}", 0, 1) for k in range(many)]
            with self.subTest(many):
                if good:
                    self.assertEqual(Model(unknowns).many(), many)
                else:
                    with self.assertRaises(BadModel):
                        Model(unknowns)

    def test_bounds(self):
        for low, high in ((-1000, 1000), (-1000, -1000), (1000, 1000), (0, 0), (-5, 3)):
            model = Model((("x", low, high),))
            self.assertEqual((model.low(0), model.high(0)), (low, high))
        for low, high in ((-1001, 0), (0, 1001), (1, 0), (-1001, -1001), (1001, 1001), (5, -5)):
            with self.subTest(low=low, high=high), self.assertRaises(BadModel):
                Model((("x", low, high),))

    def test_names(self):
        for name in ("a", "z9", "a" * 20, "row", "unknown"):
            self.assertEqual(Model(((name, 0, 1),)).name(0), name)
        for name in ("", "a" * 21, "9a", "A", "aB", "a_b", "a b", "\u00e4", "-"):
            with self.subTest(name), self.assertRaises(BadModel):
                Model(((name, 0, 1),))

    def test_the_first_fault_counts(self):
        good, bad, twin = ("x", 0, 1), ("z", 1, 0), ("x", 2, 3)
        with self.assertRaises(BadModel):
            Model((good, bad, twin))
        with self.assertRaises(Taken) as caught:
            Model((good, twin, bad))
        self.assertEqual(caught.exception.what, "x")
        # One unknown that is both: what it is itself is looked at first.
        with self.assertRaises(BadModel):
            Model((good, ("x", 1, 0)))
        # The number of unknowns comes ahead of all of them.
        with self.assertRaises(BadModel):
            Model((good, twin) + tuple((f"y{k}", 0, 1) for k in range(59)))
        with self.assertRaises(Taken) as caught:
            Model((("a", 0, 1), ("b", 0, 1), ("b", 0, 1), ("a", 0, 1)))
        self.assertEqual(caught.exception.what, "b")


class AskingTest(unittest.TestCase):
    def test_unknowns(self):
        model = small()
        self.assertEqual([model.name(v) for v in range(2)], ["x", "y"])
        self.assertEqual([model.low(v) for v in range(2)], [0, -2])
        self.assertEqual([model.high(v) for v in range(2)], [4, 3])
        self.assertEqual([model.number(name) for name in ("x", "y")], [0, 1])

    def test_unknowns_that_do_not_exist(self):
        model = small()
        model.put("c", BODY)
        for v in (-1, -2, 2, 3, 10 ** 30):
            for asked in (model.name, model.low, model.high):
                with self.subTest(v), self.assertRaises(NoSuch) as caught:
                    asked(v)
                self.assertEqual(caught.exception.what, v)
        for name in ("z", "", "c", "X"):
            with self.subTest(name), self.assertRaises(NoSuch) as caught:
                model.number(name)
            self.assertEqual(caught.exception.what, name)

    def test_constraints(self):
        model = small()
        model.put("x", BODY)
        model.put("b", OTHER)
        model.put("a", BODY)
        self.assertEqual(model.labels(), ["x", "b", "a"])
        self.assertEqual([model.body(label) for label in model.labels()], [BODY, OTHER, BODY])
        self.assertIs(model.has("b"), True)
        self.assertIs(model.has("y"), False)
        with self.assertRaises(NoSuch) as caught:
            model.body("y")
        self.assertEqual(caught.exception.what, "y")

    def test_lists_are_new(self):
        model = small()
        model.put("a", BODY)
        model.labels().append("b")
        self.assertEqual(model.labels(), ["a"])
        broken = model.broken((4, 0))
        broken.clear()
        self.assertEqual(model.broken((4, 0)), ["a"])


class EditingTest(unittest.TestCase):
    def refuses(self, error, what, change, *given, model=None):
        """Check that the change raises the error and changes nothing."""
        model = model or small()
        before = model.told()
        with self.assertRaises(error) as caught:
            getattr(model, change)(*given)
        self.assertIs(type(caught.exception), error)
        if what is not None:
            self.assertEqual(caught.exception.what, what)
        self.assertEqual(model.told(), before)

    def test_changes_return_none(self):
        model = small()
        self.assertIsNone(model.put("a", BODY))
        self.assertIsNone(model.move(0, 1, 2))
        self.assertIsNone(model.aim(("min", (), 1)))
        self.assertIsNone(model.withdraw("a"))
        self.assertEqual(model.told(), ((("x", 1, 2), ("y", -2, 3)), (), ("min", (), 1)))

    def test_put_labels(self):
        for label in ("", "a" * 21, "9a", "A", "a_"):
            self.refuses(BadModel, None, "put", label, BODY)
        model = small()
        model.put("a" * 20, BODY)
        self.assertEqual(model.labels(), ["a" * 20])

    def test_put_refused(self):
        one = full(1)
        self.refuses(Taken, "c0", "put", "c0", OTHER, model=one)
        self.refuses(BadModel, None, "put", "d", BAD_BODY, model=one)
        self.refuses(BadModel, None, "put", "d", ("row", ((2, 1),), "<=", 3), model=one)
        self.refuses(BadModel, None, "put", "d", ("different", (0, -1)), model=one)

    def test_put_order_of_reasons(self):
        model = full(200)
        self.refuses(BadModel, None, "put", "C0", BAD_BODY, model=model)
        self.refuses(Taken, "c0", "put", "c0", BAD_BODY, model=model)
        self.refuses(Taken, "c199", "put", "c199", BODY, model=model)
        self.refuses(BadModel, None, "put", "d", BAD_BODY, model=model)
        self.refuses(TooLarge, None, "put", "d", BODY, model=model)

    def test_put_at_most_200(self):
        model = full(199)
        model.put("last", OTHER)
        self.assertEqual(len(model.labels()), 200)
        self.refuses(TooLarge, None, "put", "more", BODY, model=model)
        model.withdraw("c7")
        model.put("more", BODY)
        self.assertEqual(len(model.labels()), 200)
        self.assertEqual(model.labels()[-2:], ["last", "more"])
        self.refuses(TooLarge, None, "put", "c7", BODY, model=model)

    def test_put_again_stands_last(self):
        model = full(3)
        model.withdraw("c0")
        self.assertEqual(model.labels(), ["c1", "c2"])
        model.put("c0", OTHER)
        self.assertEqual(model.told()[1], (("c1", BODY), ("c2", BODY), ("c0", OTHER)))

    def test_withdraw_refused(self):
        self.refuses(NoSuch, "x", "withdraw", "x", model=full(1))
        self.refuses(NoSuch, "C", "withdraw", "C", model=full(1))
        model = full(2)
        model.withdraw("c0")
        self.refuses(NoSuch, "c0", "withdraw", "c0", model=model)

    def test_move(self):
        model = small()
        for low, high in ((1, 2), (-1000, 1000), (1000, 1000), (-1000, -1000), (0, 0)):
            model.move(1, low, high)
            self.assertEqual(model.told()[0], (("x", 0, 4), ("y", low, high)))

    def test_move_refused(self):
        for v in (-1, 2, 10 ** 30):
            self.refuses(NoSuch, v, "move", v, 0, 1)
            self.refuses(NoSuch, v, "move", v, 1, 0)
        for low, high in ((-1001, 0), (0, 1001), (1, 0), (-1001, -1001), (1001, 1001)):
            self.refuses(BadModel, None, "move", 1, low, high)

    def test_aim(self):
        model = small()
        for goal in (("max", (), 0), ("min", ((0, 1), (1, -3)), 7), ("max", ((1, 10 ** 6),), 10 ** 9),
                     ("min", ((1, -10 ** 6),), -10 ** 9)):
            model.aim(goal)
            self.assertEqual(model.goal(), goal)

    def test_aim_refused(self):
        for goal in (("Max", (), 0), ("", (), 0), ("max", ((0, 0),), 0), ("max", ((2, 1),), 0), ("max", ((-1, 1),), 0),
                     ("max", ((1, 1), (0, 1)), 0), ("max", ((0, 1), (0, 1)), 0), ("max", ((0, 10 ** 6 + 1),), 0),
                     ("min", ((0, -10 ** 6 - 1),), 0), ("min", (), 10 ** 9 + 1), ("min", (), -10 ** 9 - 1)):
            self.refuses(BadModel, None, "aim", goal)

    def test_aim_has_at_most_60_terms(self):
        model = Model([(f"x{k}", 0, 1) for k in range(60)])
        goal = ("max", tuple((k, 1) for k in range(60)), 0)
        model.aim(goal)
        self.assertEqual(model.goal(), goal)


class PointsTest(unittest.TestCase):
    def test_inside(self):
        model = small()
        for point in itertools.product(range(-4, 7), repeat=2):
            self.assertIs(model.inside(point), 0 <= point[0] <= 4 and -2 <= point[1] <= 3)

    def test_solutions_are_inside_and_hold(self):
        model = small()
        model.put("a", ("row", ((0, 1), (1, 1)), "<=", 3))
        model.put("b", ("any", ((0, ">=", 2), (1, "=", 3))))
        for x, y in itertools.product(range(-4, 7), repeat=2):
            good = [x + y <= 3, x >= 2 or y == 3]
            self.assertIs(model.is_solution((x, y)), model.inside((x, y)) and all(good))
            self.assertEqual(model.broken((x, y)), [label for label, holds in zip("ab", good) if not holds])

    def test_broken_is_in_order(self):
        model = small()
        for label in ("c", "a", "b"):
            model.put(label, ("row", ((0, 1),), "<=", 0))
        self.assertEqual(model.broken((1, 0)), ["c", "a", "b"])
        self.assertEqual(model.broken((0, 0)), [])
        model.withdraw("c")
        model.put("c", ("row", ((0, 1),), "<=", 0))
        self.assertEqual(model.broken((1, 0)), ["a", "b", "c"])


class GoalTest(unittest.TestCase):
    def aimed(self, sense, terms=((0, 2), (1, -3)), constant=5):
        model = small()
        model.aim((sense, terms, constant))
        return model

    def test_a_new_model(self):
        model = small()
        self.assertEqual(model.goal(), ("max", (), 0))
        self.assertEqual(model.worth((3, 1)), 0)

    def test_worth(self):
        for sense in ("max", "min"):
            self.assertEqual(self.aimed(sense).worth((4, -1)), 16)
            self.assertEqual(self.aimed(sense, (), -7).worth((4, -1)), -7)

    def test_is_better(self):
        for first, second in itertools.product((-2, -1, 0, 1), repeat=2):
            self.assertIs(self.aimed("max").is_better(first, second), first > second)
            self.assertIs(self.aimed("min").is_better(first, second), first < second)

    def test_goal_row(self):
        self.assertEqual(self.aimed("max").goal_row(11), ("row", ((0, 2), (1, -3)), 6))
        self.assertEqual(self.aimed("min").goal_row(11), ("row", ((0, -2), (1, 3)), -6))
        self.assertEqual(self.aimed("max", ()).goal_row(4), ("row", (), -1))
        self.assertEqual(self.aimed("min", ()).goal_row(4), ("row", (), 1))

    def test_improving_row(self):
        self.assertEqual(self.aimed("max").improving_row(11), ("row", ((0, -2), (1, 3)), -7))
        self.assertEqual(self.aimed("min").improving_row(11), ("row", ((0, 2), (1, -3)), 5))
        self.assertEqual(self.aimed("max", ()).improving_row(5), ("row", (), -1))
        self.assertEqual(self.aimed("min", ()).improving_row(5), ("row", (), -1))

    def test_rows_mean_what_they_state(self):
        for sense in ("max", "min"):
            model = self.aimed(sense)
            for worth in range(-6, 20):
                for x, y in itertools.product(range(5), range(-2, 4)):
                    better = model.is_better(model.worth((x, y)), worth)
                    for row, expected in ((model.goal_row(worth), not better), (model.improving_row(worth), better)):
                        total = sum(c * (x, y)[v] for v, c in row[1])
                        self.assertIs(total <= row[2], expected)


class CopyTest(unittest.TestCase):
    def made(self):
        model = small()
        model.put("b", BODY)
        model.put("a", OTHER)
        model.move(1, -7, 8)
        model.aim(("min", ((1, 2),), 3))
        return model

    def test_a_copy_tells_the_same(self):
        model = self.made()
        self.assertEqual(model.copy().told(), model.told())
        self.assertIsNot(model.copy(), model)
        constraints = (("b", BODY), ("a", OTHER))
        self.assertEqual(model.told(), ((("x", 0, 4), ("y", -7, 8)), constraints, ("min", ((1, 2),), 3)))

    def test_changes_do_not_reach_the_other(self):
        for changed, kept in ((0, 1), (1, 0)):
            model = self.made()
            pair = (model, model.copy())
            before = pair[kept].told()
            pair[changed].put("c", BODY)
            pair[changed].withdraw("b")
            pair[changed].move(0, 1, 2)
            pair[changed].aim(("max", (), 0))
            self.assertEqual(pair[kept].told(), before)
            self.assertNotEqual(pair[changed].told(), before)

    def test_a_full_model_is_copied(self):
        model = full(200)
        self.assertEqual(model.copy().told(), model.told())


if __name__ == "__main__":
    unittest.main()
