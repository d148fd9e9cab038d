"""Promises [8] to [11]: relations, literals, terms and rows."""

import operator
import unittest

from commonground.model.literal import (
    literal_holds,
    literal_implies,
    negated,
    negated_terms,
    relation_holds,
    rows_of,
    terms_sum,
)

SIGNS = {"<=": operator.le, ">=": operator.ge, "=": operator.eq, "!=": operator.ne}
HUGE = 10 ** 40


class RelationTest(unittest.TestCase):
    def test_relations(self):
        for relation, sign in SIGNS.items():
            for left in range(-3, 4):
                for right in range(-3, 4):
                    with self.subTest(relation=relation, left=left, right=right):
                        self.assertIs(relation_holds(relation, left, right), sign(left, right))

    def test_numbers_of_any_size(self):
        for relation, sign in SIGNS.items():
            for left in (HUGE - 1, HUGE, HUGE + 1, -HUGE):
                self.assertIs(relation_holds(relation, left, HUGE), sign(left, HUGE))


class LiteralTest(unittest.TestCase):
    def test_holds(self):
        for relation, sign in SIGNS.items():
            for worth in range(-3, 4):
                for a in range(-3, 4):
                    self.assertIs(literal_holds((7, relation, a), worth), sign(worth, a))

    def test_opposites(self):
        for a in (-HUGE, -2, -1, 0, 1, 2, HUGE):
            self.assertEqual(negated((4, "<=", a)), (4, ">=", a + 1))
            self.assertEqual(negated((4, ">=", a)), (4, "<=", a - 1))
            self.assertEqual(negated((4, "=", a)), (4, "!=", a))
            self.assertEqual(negated((4, "!=", a)), (4, "=", a))

    def test_opposite_holds_exactly_elsewhere(self):
        for relation in SIGNS:
            for a in range(-3, 4):
                for worth in range(-6, 7):
                    literal = (0, relation, a)
                    self.assertIs(literal_holds(negated(literal), worth), not literal_holds(literal, worth))

    def test_implies_all_pairs(self):
        # Beyond the numbers of the literals nothing changes, so a window tells of all integers.
        window = range(-8, 9)
        for one, first in SIGNS.items():
            for two, second in SIGNS.items():
                for a in range(-3, 4):
                    for b in range(-3, 4):
                        expected = all(second(x, b) for x in window if first(x, a))
                        with self.subTest(first=(one, a), second=(two, b)):
                            self.assertIs(literal_implies((2, one, a), (2, two, b)), expected)

    def test_named_cases(self):
        self.assertIs(literal_implies((0, "<=", 3), (0, "<=", 5)), True)
        self.assertIs(literal_implies((0, "<=", 3), (0, "!=", 4)), True)
        self.assertIs(literal_implies((0, "!=", 3), (0, "!=", 3)), True)
        self.assertIs(literal_implies((0, "!=", 3), (0, "!=", 4)), False)

    def test_other_unknowns_are_never_implied(self):
        for one in SIGNS:
            for two in SIGNS:
                for a in (-1, 0, 1):
                    self.assertIs(literal_implies((0, one, a), (1, two, 0)), False)

    def test_implies_at_any_size(self):
        self.assertIs(literal_implies((0, "<=", HUGE), (0, "<=", HUGE)), True)
        self.assertIs(literal_implies((0, "<=", HUGE), (0, "<=", HUGE - 1)), False)
        self.assertIs(literal_implies((0, "<=", HUGE), (0, "!=", HUGE + 1)), True)
        self.assertIs(literal_implies((0, "<=", HUGE), (0, "!=", HUGE)), False)
        self.assertIs(literal_implies((0, ">=", -HUGE), (0, ">=", -HUGE - 1)), True)
        self.assertIs(literal_implies((0, ">=", -HUGE), (0, "!=", -HUGE - 1)), True)
        self.assertIs(literal_implies((0, ">=", HUGE), (0, "<=", HUGE)), False)
        # Bounds of a model do not count here: every integer does.
        self.assertIs(literal_implies((0, ">=", 1000), (0, "=", 1000)), False)


class TermsTest(unittest.TestCase):
    def test_sum(self):
        point = (5, -2, 7, 0)
        self.assertEqual(terms_sum((), point), 0)
        self.assertEqual(terms_sum(((0, 3),), point), 15)
        self.assertEqual(terms_sum(((0, 3), (1, 4), (2, -1)), point), 0)
        self.assertEqual(terms_sum(((1, HUGE), (3, 5)), point), -2 * HUGE)

    def test_negated_terms(self):
        self.assertEqual(negated_terms(()), ())
        self.assertEqual(negated_terms(((0, 3), (4, -7))), ((0, -3), (4, 7)))


class RowsTest(unittest.TestCase):
    def test_rows(self):
        terms = ((0, 2), (3, -1))
        below = ("row", ((0, 2), (3, -1)), 5)
        above = ("row", ((0, -2), (3, 1)), -5)
        self.assertEqual(rows_of(terms, "<=", 5), [below])
        self.assertEqual(rows_of(terms, ">=", 5), [above])
        self.assertEqual(rows_of(terms, "=", 5), [below, above])

    def test_rows_without_terms(self):
        self.assertEqual(rows_of((), "<=", -1), [("row", (), -1)])
        self.assertEqual(rows_of((), ">=", -1), [("row", (), 1)])
        self.assertEqual(rows_of((), "=", 0), [("row", (), 0), ("row", (), 0)])

    def test_a_new_list_each_time(self):
        first = rows_of(((0, 1),), "=", 2)
        first.clear()
        self.assertEqual(len(rows_of(((0, 1),), "=", 2)), 2)


if __name__ == "__main__":
    unittest.main()
