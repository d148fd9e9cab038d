"""Promises [21] to [26]: facts."""

import itertools
import unittest

from commonground.facts.fact import (
    as_literal,
    as_row,
    fact_holds,
    implies,
    is_contradiction,
    negation,
    unknowns_in,
)
from tests.makers import NEVER, clause, row

HUGE = 10 ** 40


class HoldsTest(unittest.TestCase):
    def test_rows(self):
        fact = row(4, (0, 2), (2, -1))
        self.assertIs(fact_holds(fact, (2, 9, 0)), True)
        self.assertIs(fact_holds(fact, (2, 9, -1)), False)
        self.assertIs(fact_holds(fact, (-9, 9, 5)), True)
        self.assertIs(fact_holds(row(0), (1,)), True)
        self.assertIs(fact_holds(row(-1), (1,)), False)
        self.assertIs(fact_holds(row(HUGE, (0, HUGE)), (1,)), True)
        self.assertIs(fact_holds(row(HUGE - 1, (0, HUGE)), (1,)), False)

    def test_clauses(self):
        fact = clause((0, "<=", 1), (1, "=", 3), (1, "=", 3))
        self.assertIs(fact_holds(fact, (1, 0)), True)
        self.assertIs(fact_holds(fact, (2, 3)), True)
        self.assertIs(fact_holds(fact, (2, 2)), False)
        self.assertIs(fact_holds(NEVER, (0,)), False)
        self.assertIs(fact_holds(clause((0, "!=", HUGE)), (1,)), True)


class ContradictionTest(unittest.TestCase):
    def test_contradictions(self):
        for fact, expected in ((NEVER, True), (row(-1), True), (row(-HUGE), True), (row(0), False), (row(1), False),
                               (row(-1, (0, 1)), False), (clause((0, "=", 5000)), False)):
            self.assertIs(is_contradiction(fact), expected, fact)


class CountsAsTest(unittest.TestCase):
    def test_rows(self):
        self.assertEqual(as_row(clause((3, "<=", -7))), row(-7, (3, 1)))
        self.assertEqual(as_row(clause((3, ">=", -7))), row(7, (3, -1)))
        self.assertEqual(as_row(clause((3, ">=", HUGE))), row(-HUGE, (3, -1)))
        for fact in (row(-1), row(4, (0, 2)), row(HUGE, (0, 2), (1, -2))):
            self.assertEqual(as_row(fact), fact)

    def test_what_counts_as_no_row(self):
        for fact in (NEVER, clause((0, "=", 1)), clause((0, "!=", 1)), clause((0, "<=", 1), (0, "<=", 1)),
                     clause((0, "<=", 1), (1, ">=", 1))):
            self.assertIsNone(as_row(fact), fact)

    def test_clauses_as_literals(self):
        for literal in itertools.product((0, 4), ("<=", ">=", "=", "!="), (-HUGE, -1, 0, 1)):
            self.assertEqual(as_literal(clause(literal)), literal)

    def test_rows_as_literals(self):
        for c in (1, 2, 3, 7):
            for rhs in range(-15, 16):
                up = as_literal(row(rhs, (5, c)))
                down = as_literal(row(rhs, (5, -c)))
                self.assertEqual(up[:2], (5, "<="))
                self.assertEqual(down[:2], (5, ">="))
                for a in range(-20, 21):
                    self.assertEqual(c * a <= rhs, a <= up[2])
                    self.assertEqual(-c * a <= rhs, a >= down[2])

    def test_floors_of_negative_numbers(self):
        self.assertEqual(as_literal(row(-5, (0, 2))), (0, "<=", -3))
        self.assertEqual(as_literal(row(5, (0, 2))), (0, "<=", 2))
        self.assertEqual(as_literal(row(-5, (0, -2))), (0, ">=", 3))
        self.assertEqual(as_literal(row(5, (0, -2))), (0, ">=", -2))
        self.assertEqual(as_literal(row(-HUGE - 1, (0, HUGE))), (0, "<=", -2))

    def test_what_counts_as_no_literal(self):
        for fact in (NEVER, row(-1), row(3), row(3, (0, 1), (1, 1)), clause((0, "<=", 1), (0, "<=", 1))):
            self.assertIsNone(as_literal(fact), fact)


class NegationTest(unittest.TestCase):
    def test_rows(self):
        self.assertEqual(negation(row(4, (0, 2), (1, -3))), row(-5, (0, -2), (1, 3)))
        self.assertEqual(negation(row(-1, (0, 1))), row(0, (0, -1)))
        self.assertEqual(negation(row(0)), row(-1))
        self.assertEqual(negation(row(-1)), row(0))

    def test_clauses(self):
        self.assertEqual(negation(clause((2, "<=", 3))), clause((2, ">=", 4)))
        self.assertEqual(negation(clause((2, ">=", 3))), clause((2, "<=", 2)))
        self.assertEqual(negation(clause((2, "=", 3))), clause((2, "!=", 3)))
        self.assertEqual(negation(clause((2, "!=", 3))), clause((2, "=", 3)))

    def test_what_has_none(self):
        self.assertIsNone(negation(NEVER))
        self.assertIsNone(negation(clause((0, "=", 1), (1, "=", 1))))
        self.assertIsNone(negation(clause((0, "=", 1), (0, "=", 1))))


class ImpliesTest(unittest.TestCase):
    def yes(self, first, second):
        self.assertIs(implies(first, second), True, (first, second))

    def no(self, first, second):
        self.assertIs(implies(first, second), False, (first, second))

    def test_contradictions_imply_everything(self):
        for fact in (NEVER, row(-1), row(-9), row(0), row(3, (0, 1)), row(-3, (0, 1), (1, 1)), clause((4, "=", 1)),
                     clause((4, "=", 1), (5, "=", 1))):
            self.yes(NEVER, fact)
            self.yes(row(-1), fact)
        self.no(row(0), row(-1))
        self.no(row(0), NEVER)
        self.no(row(-1, (0, 1)), NEVER)

    def test_rows_with_the_same_terms(self):
        terms = ((0, 2), (3, -1))
        self.yes(("row", terms, 4), ("row", terms, 4))
        self.yes(("row", terms, 4), ("row", terms, 5))
        self.no(("row", terms, 4), ("row", terms, 3))
        self.no(("row", terms, 4), ("row", ((0, 2), (3, -2)), 40))
        self.no(("row", terms, 4), ("row", ((0, 4), (3, -2)), 8))
        self.no(("row", terms, 4), ("row", ((0, 2),), 40))
        self.no(("row", terms, 4), clause((0, "<=", 5000)))
        self.yes(row(0), row(0))
        self.yes(row(0), row(HUGE))
        self.no(row(1), row(0))

    def test_clauses_as_rows(self):
        self.yes(clause((0, "<=", 3)), row(3, (0, 1)))
        self.no(clause((0, "<=", 3)), row(2, (0, 1)))
        self.yes(clause((0, ">=", 3)), row(-3, (0, -1)))
        self.no(clause((0, ">=", 3)), row(-4, (0, -1)))
        self.no(clause((0, "<=", 3), (0, "<=", 3)), row(3, (0, 1)))

    def test_clauses_in_clauses(self):
        one, two, three = (0, "=", 1), (1, ">=", 2), (2, "!=", 3)
        self.yes(clause(one, two), clause(three, two, one))
        self.yes(clause(one, two), clause(two, one))
        self.yes(clause(one, one), clause(one, two))
        self.yes(clause(one, two), clause(two, one, two))
        self.no(clause(one, two), clause(one, three))
        self.no(clause(one, two), clause(one))
        # Only equal literals count when there are several.
        self.no(clause(one, two), clause(one, (1, ">=", 1)))
        self.no(clause((0, "=", 1), (0, "=", 2)), clause((0, "<=", 2)))

    def test_literals(self):
        self.yes(clause((0, "=", 1)), clause((3, "=", 0), (0, "<=", 1)))
        self.no(clause((0, "=", 1)), clause((3, "=", 0), (0, "<=", 0)))
        self.yes(clause((0, "=", 1)), row(1, (0, 1)))
        self.yes(clause((0, "=", 1)), row(3, (0, 2)))
        self.no(clause((0, "=", 1)), row(1, (0, 2)))
        self.no(clause((0, "!=", 1)), row(1, (0, 1)))
        self.yes(row(5, (0, 2)), row(2, (0, 1)))
        self.no(row(5, (0, 2)), row(1, (0, 1)))
        self.yes(row(5, (0, 2)), row(4, (0, 2)))
        self.no(row(5, (0, 2)), row(3, (0, 2)))
        self.yes(row(-5, (0, -2)), clause((0, "!=", 2), (1, "=", 0)))
        self.no(row(-5, (0, -2)), clause((0, "!=", 3), (1, "=", 0)))
        self.yes(clause((0, "<=", 3)), row(7, (0, 2)))
        self.no(clause((0, "<=", 3)), row(5, (0, 2)))
        self.no(clause((0, "<=", 3)), row(99, (0, 1), (1, 1)))
        self.no(row(3, (0, 1)), clause((1, "<=", 3)))
        self.no(row(3, (0, 1), (1, 1)), clause((0, "<=", 9), (1, "<=", 9)))
        self.no(row(3), clause((0, "<=", 3)))
        self.no(row(3), row(3, (0, 1)))
        self.no(row(3, (0, 1)), row(3))

    def test_what_is_implied_holds(self):
        rows = [("row", terms, rhs) for rhs in range(-3, 4)
                for terms in ((), ((0, 1),), ((0, -1),), ((0, 2),), ((1, -2),), ((0, 1), (1, 1)))]
        literals = list(itertools.product((0, 1), ("<=", ">=", "=", "!="), (0, 1)))
        clauses = [clause(*some) for many in range(3) for some in itertools.combinations(literals, many)]
        points = list(itertools.product(range(-4, 5), repeat=2))
        held = {fact: [fact_holds(fact, point) for point in points] for fact in rows + clauses}
        for first in rows + clauses:
            for second in rows + clauses:
                if implies(first, second):
                    for one, two in zip(held[first], held[second]):
                        self.assertFalse(one and not two, (first, second))

    def test_single_literals_in_all_forms(self):
        singles = [row(rhs, (0, c)) for rhs in range(-4, 5) for c in (-3, -2, -1, 1, 2, 3)]
        singles += [clause((0, relation, a)) for relation in ("<=", ">=", "=", "!=") for a in range(-2, 3)]
        window = [(x,) for x in range(-12, 13)]
        for first in singles:
            for second in singles:
                expected = all(fact_holds(second, point) for point in window if fact_holds(first, point))
                self.assertIs(implies(first, second), expected, (first, second))


class UnknownsTest(unittest.TestCase):
    def test_unknowns(self):
        self.assertEqual(unknowns_in(NEVER), [])
        self.assertEqual(unknowns_in(row(3)), [])
        self.assertEqual(unknowns_in(row(3, (1, 2), (7, 1))), [1, 7])
        self.assertEqual(unknowns_in(clause((7, "=", 0), (1, "=", 2), (7, "<=", 5))), [1, 7])

    def test_a_new_list_each_time(self):
        fact = row(3, (1, 2))
        unknowns_in(fact).append(9)
        self.assertEqual(unknowns_in(fact), [1])


if __name__ == "__main__":
    unittest.main()
