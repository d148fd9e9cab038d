"""Promises [6] and [12] to [14]: labels and bodies."""

import itertools
import unittest

from commonground.model.body import body_fits, body_holds, is_label, unknowns_of

MANY = 70
LITERAL = (0, "<=", 1)
BODIES = {
    "row": ("row", ((1, 2), (5, -3)), "<=", 4),
    "any": ("any", ((5, "=", 0), (1, "<=", 3))),
    "when": ("when", (6, "!=", 0), ((1, 1), (4, 2)), ">=", 3),
    "different": ("different", (4, 1, 2)),
    "table": ("table", (3, 0), ((1, 2), (0, 0))),
    "element": ("element", 5, (7, 8, 9), 2),
    "times": ("times", 4, 0, 2),
}


class LabelTest(unittest.TestCase):
    def test_lengths(self):
        for length, expected in ((0, False), (1, True), (2, True), (19, True), (20, True), (21, False), (40, False)):
            with self.subTest(length):
                self.assertIs(is_label("a" * length), expected)

    def test_every_first_character(self):
        for code in range(0, 300):
            sign = chr(code)
            self.assertIs(is_label(sign), sign in "abcdefghijklmnopqrstuvwxyz", code)

    def test_every_later_character(self):
        for code in range(0, 300):
            sign = chr(code)
            expected = sign in "abcdefghijklmnopqrstuvwxyz0123456789"
            self.assertIs(is_label("b" + sign), expected, code)
            self.assertIs(is_label("b" + sign + "9"), expected, code)

    def test_digits_of_other_scripts_are_none(self):
        self.assertIs(is_label("a\u0663"), False)
        self.assertIs(is_label("\u03b1"), False)


class HoldsTest(unittest.TestCase):
    def test_row(self):
        for relation, worths in (("<=", (3, 4)), (">=", (4, 5)), ("=", (4,))):
            body = ("row", ((0, 2), (1, -1)), relation, 4)
            for s in (3, 4, 5):
                with self.subTest(relation=relation, s=s):
                    self.assertIs(body_holds(body, (s, s)), s in worths)

    def test_row_without_terms(self):
        self.assertIs(body_holds(("row", (), "<=", 0), (1,)), True)
        self.assertIs(body_holds(("row", (), "<=", -1), (1,)), False)
        self.assertIs(body_holds(("row", (), ">=", 1), (1,)), False)
        self.assertIs(body_holds(("row", (), "=", 0), (1,)), True)

    def test_any(self):
        body = ("any", ((0, "<=", 1), (1, ">=", 3), (0, "=", 4), (1, "!=", 2)))
        for x, y in itertools.product(range(6), range(6)):
            self.assertIs(body_holds(body, (x, y)), x <= 1 or y >= 3 or x == 4 or y != 2)
        self.assertIs(body_holds(("any", ((0, "=", 1),)), (1,)), True)
        self.assertIs(body_holds(("any", ((0, "=", 1),)), (2,)), False)

    def test_when(self):
        body = ("when", (0, ">=", 2), ((0, 1), (1, 1)), "=", 5)
        for x, y in itertools.product(range(-2, 6), range(-2, 6)):
            self.assertIs(body_holds(body, (x, y)), x < 2 or x + y == 5)

    def test_different(self):
        body = ("different", (2, 0, 1))
        for point in itertools.product(range(3), repeat=4):
            self.assertIs(body_holds(body, point), len(set(point[:3])) == 3)

    def test_table(self):
        body = ("table", (2, 0), ((1, 2), (0, 0), (1, 2), (-3, 5)))
        for point in itertools.product((-3, 0, 1, 2, 5), repeat=3):
            self.assertIs(body_holds(body, point), (point[2], point[0]) in ((1, 2), (0, 0), (-3, 5)))

    def test_element(self):
        body = ("element", 1, (4, 0, 2), 0)
        for z, x in itertools.product(range(-4, 6), range(-4, 6)):
            self.assertIs(body_holds(body, (z, x)), 0 <= x <= 2 and (4, 0, 2)[x] == z)

    def test_element_of_one_unknown(self):
        body = ("element", 0, (2, 1, 0, 3), 0)
        for x in range(-4, 6):
            self.assertIs(body_holds(body, (x,)), x in (1, 3))

    def test_times(self):
        for x, y, z in itertools.product(range(-3, 4), repeat=3):
            self.assertIs(body_holds(("times", 2, 0, 1), (x, y, z)), z * x == y)
        for x, y in itertools.product(range(-3, 4), repeat=2):
            self.assertIs(body_holds(("times", 0, 0, 1), (x, y)), x * x == y)
            self.assertIs(body_holds(("times", 0, 1, 1), (x, y)), x * y == y)
            self.assertIs(body_holds(("times", 0, 1, 0), (x, y)), x * y == x)
            self.assertIs(body_holds(("times", 0, 0, 0), (x, y)), x * x == x)

    def test_points_need_not_be_inside(self):
        self.assertIs(body_holds(("row", ((0, 1),), ">=", 10 ** 9), (10 ** 30,)), True)
        self.assertIs(body_holds(("element", 0, (5,), 1), (-1, 5)), False)


class UnknownsTest(unittest.TestCase):
    def test_of_each_kind(self):
        expected = {
            "row": [1, 5],
            "any": [1, 5],
            "when": [1, 4, 6],
            "different": [1, 2, 4],
            "table": [0, 3],
            "element": [2, 5],
            "times": [0, 2, 4],
        }
        for kind, body in BODIES.items():
            with self.subTest(kind):
                self.assertEqual(unknowns_of(body), expected[kind])

    def test_each_once(self):
        self.assertEqual(unknowns_of(("row", (), "=", 0)), [])
        self.assertEqual(unknowns_of(("any", ((3, "=", 0), (3, "=", 1), (0, "=", 1)))), [0, 3])
        self.assertEqual(unknowns_of(("when", (2, "=", 0), ((2, 1),), "=", 0)), [2])
        self.assertEqual(unknowns_of(("when", (2, "=", 0), (), "=", 0)), [2])
        self.assertEqual(unknowns_of(("element", 4, (1,), 4)), [4])
        self.assertEqual(unknowns_of(("times", 4, 4, 4)), [4])
        self.assertEqual(unknowns_of(("times", 4, 1, 4)), [1, 4])

    def test_a_new_list_each_time(self):
        for body in BODIES.values():
            found = unknowns_of(body)
            found.append(99)
            self.assertNotIn(99, unknowns_of(body))


class FitsTest(unittest.TestCase):
    def yes(self, body, many=MANY):
        self.assertIs(body_fits(body, many), True, body)

    def no(self, body, many=MANY):
        self.assertIs(body_fits(body, many), False, body)

    def test_ordinary_bodies(self):
        for body in BODIES.values():
            self.yes(body)

    def test_unknown_kind(self):
        self.no(("rows", ((1, 2),), "<=", 4))
        self.no(("", (0, 1)))

    def check_linear(self, made):
        """Check what row and when bodies have in common, made being a function of their linear part."""
        for relation in ("<=", ">=", "="):
            self.yes(made(((0, 1),), relation, 0))
        for relation in ("!=", "<", "==", ""):
            self.no(made(((0, 1),), relation, 0))
        for count, fits in ((0, True), (1, True), (60, True), (61, False), (62, False)):
            self.assertIs(body_fits(made(tuple((v, 1) for v in range(count)), "<=", 0), MANY), fits, count)
        for c, fits in ((10 ** 6, True), (-10 ** 6, True), (10 ** 6 + 1, False), (-10 ** 6 - 1, False),
                        (0, False), (1, True), (-1, True)):
            self.assertIs(body_fits(made(((0, c),), "<=", 0), MANY), fits, c)
            self.assertIs(body_fits(made(((0, 1), (1, c)), "<=", 0), MANY), fits, c)
        for rhs, fits in ((10 ** 9, True), (-10 ** 9, True), (10 ** 9 + 1, False), (-10 ** 9 - 1, False)):
            self.assertIs(body_fits(made(((0, 1),), "<=", rhs), MANY), fits, rhs)
            self.assertIs(body_fits(made((), "<=", rhs), MANY), fits, rhs)
        for terms, fits in ((((3, 1), (4, 1)), True), (((3, 1), (3, 1)), False), (((4, 1), (3, 1)), False),
                            (((-1, 1),), False), (((MANY - 1, 1),), True), (((MANY, 1),), False),
                            (((-1, 1), (3, 1)), False), (((0, 1), (2, 1), (1, 1)), False)):
            self.assertIs(body_fits(made(terms, "<=", 0), MANY), fits, terms)

    def check_literal(self, made):
        """Check the bounds of a literal, made being a function from a literal to a body."""
        for relation in ("<=", ">=", "=", "!="):
            self.yes(made((0, relation, 0)))
        for relation in ("<", "==", ""):
            self.no(made((0, relation, 0)))
        for a, fits in ((1001, True), (-1001, True), (1002, False), (-1002, False)):
            for relation in ("<=", ">=", "=", "!="):
                self.assertIs(body_fits(made((0, relation, a)), MANY), fits, (relation, a))
        for v, fits in ((0, True), (MANY - 1, True), (MANY, False), (-1, False)):
            self.assertIs(body_fits(made((v, "=", 0)), MANY), fits, v)

    def test_row(self):
        self.check_linear(lambda terms, relation, rhs: ("row", terms, relation, rhs))

    def test_any(self):
        self.check_literal(lambda literal: ("any", (literal,)))
        self.check_literal(lambda literal: ("any", ((1, "=", 5), literal)))
        for count, fits in ((0, False), (1, True), (2, True), (40, True), (41, False)):
            self.assertIs(body_fits(("any", tuple((0, "=", a) for a in range(count))), MANY), fits, count)
        self.no(("any", (LITERAL, LITERAL)))
        self.no(("any", (LITERAL, (1, "=", 0), LITERAL)))
        self.yes(("any", (LITERAL, (0, "<=", 2), (0, ">=", 1), (1, "<=", 1))))

    def test_when(self):
        self.check_linear(lambda terms, relation, rhs: ("when", LITERAL, terms, relation, rhs))
        self.check_literal(lambda literal: ("when", literal, ((0, 1),), "<=", 0))

    def test_different(self):
        for count, fits in ((0, False), (1, False), (2, True), (20, True), (21, False)):
            self.assertIs(body_fits(("different", tuple(range(count))), MANY), fits, count)
        self.yes(("different", (5, 0, 3)))
        self.no(("different", (5, 0, 5)))
        self.no(("different", (2, 2)))
        self.yes(("different", (MANY - 1, 0)))
        self.no(("different", (MANY, 0)))
        self.no(("different", (0, -1)))

    def test_table(self):
        for count, fits in ((0, False), (1, True), (6, True), (7, False)):
            self.assertIs(body_fits(("table", tuple(range(count)), ((0,) * count,)), MANY), fits, count)
        for count, fits in ((0, False), (1, True), (200, True), (201, False)):
            self.assertIs(body_fits(("table", (0,), tuple((a,) for a in range(count))), MANY), fits, count)
        self.yes(("table", (0,), ((1,),) * 200))
        self.no(("table", (0,), ((1,),) * 201))
        self.yes(("table", (5, 0), ((1, 2), (1, 2))))
        self.no(("table", (5, 5), ((1, 2),)))
        self.no(("table", (0, 1), ((1, 2), (1,))))
        self.no(("table", (0, 1), ((1, 2), (1, 2, 3))))
        self.no(("table", (0, 1), ((1, 2), ())))
        for a, fits in ((1000, True), (-1000, True), (1001, False), (-1001, False)):
            self.assertIs(body_fits(("table", (0, 1), ((0, 0), (0, a))), MANY), fits, a)
        for v, fits in ((MANY - 1, True), (MANY, False), (-1, False)):
            self.assertIs(body_fits(("table", (0, v), ((1, 2),)), MANY), fits, v)

    def test_element(self):
        for count, fits in ((0, False), (1, True), (60, True), (61, False)):
            self.assertIs(body_fits(("element", 0, (3,) * count, 1), MANY), fits, count)
        for a, fits in ((1000, True), (-1000, True), (1001, False), (-1001, False)):
            self.assertIs(body_fits(("element", 0, (0, a), 1), MANY), fits, a)
        self.yes(("element", 2, (0,), 2))
        for v, fits in ((0, True), (MANY - 1, True), (MANY, False), (-1, False)):
            self.assertIs(body_fits(("element", v, (0,), 1), MANY), fits, v)
            self.assertIs(body_fits(("element", 1, (0,), v), MANY), fits, v)

    def test_times(self):
        self.yes(("times", 2, 2, 2))
        for v, fits in ((0, True), (MANY - 1, True), (MANY, False), (-1, False)):
            self.assertIs(body_fits(("times", v, 1, 1), MANY), fits, v)
            self.assertIs(body_fits(("times", 1, v, 1), MANY), fits, v)
            self.assertIs(body_fits(("times", 1, 1, v), MANY), fits, v)

    def test_the_number_of_unknowns_counts(self):
        for kind, body in BODIES.items():
            greatest = max(unknowns_of(body))
            with self.subTest(kind):
                self.yes(body, greatest + 1)
                self.no(body, greatest)


if __name__ == "__main__":
    unittest.main()
