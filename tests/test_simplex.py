"""Promises [57] to [62]: linear programs, their optima and roundings."""

import random
import unittest
from fractions import Fraction

from commonground.exact.simplex import combination, inequality, optimum, rounding
from tests.programs import all_inequalities, as_fractions, plain_optimum, points_of, random_program, total

GREAT = 10 ** 40


class ProgramTest(unittest.TestCase):
    def check_weights(self, weights, program):
        many = len(program[2]) + 2 * len(program[0])
        self.assertIsInstance(weights, tuple)
        numbers = [q for q, _ in weights]
        self.assertEqual(numbers, sorted(set(numbers)))
        self.assertTrue(all(0 <= q < many and m >= 1 for q, m in weights), weights)

    def combined(self, program, weights):
        """Return the coefficients, column by column, and the rhs."""
        lows, highs, rows, _ = program
        ineqs = all_inequalities(lows, highs, rows)
        coefs = [sum(m * dict(ineqs[q][0]).get(j, 0) for q, m in weights) for j in range(len(lows))]
        return coefs, sum(m * ineqs[q][1] for q, m in weights)

    def check_refuting(self, weights, program):
        self.check_weights(weights, program)
        coefs, rhs = self.combined(program, weights)
        self.assertEqual(coefs, [0] * len(program[0]))
        self.assertLess(rhs, 0)

    def check_none(self, program):
        told = optimum(*program)
        self.assertEqual((told[0], len(told)), ("none", 2))
        self.check_refuting(told[1], program)
        self.assertIsNone(rounding(*program))

    def check_best(self, program, worth, position):
        told = optimum(*program)
        self.assertEqual((told[0], len(told)), ("best", 5))
        _, value, best, scale, weights = told
        self.assertEqual(as_fractions(best), position)
        self.assertEqual(as_fractions([value]), (worth,))
        for top, bottom in best + (value,):
            self.assertEqual((Fraction(top, bottom).numerator, bottom >= 1), (top, True))
        self.check_weights(weights, program)
        self.assertGreaterEqual(scale, 1)
        coefs, rhs = self.combined(program, weights)
        self.assertEqual(coefs, [scale * dict(program[3]).get(j, 0) for j in range(len(program[0]))])
        self.assertEqual(rhs, scale * worth)
        self.check_rounding(program, position)

    def check_rounding(self, program, position):
        told = rounding(*program)
        if all(a.denominator == 1 for a in map(Fraction, position)):
            self.assertIsNone(told)
            return
        scale, weights = told
        self.assertGreaterEqual(scale, 2)
        self.check_weights(weights, program)
        coefs, rhs = self.combined(program, weights)
        self.assertTrue(all(c % scale == 0 for c in coefs), (coefs, scale))
        terms = tuple((j, c // scale) for j, c in enumerate(coefs))
        self.assertGreater(total(terms, position), rhs // scale)
        if max(program[1]) < 100:
            for point in points_of(program):
                self.assertLessEqual(total(terms, point), rhs // scale)


class InequalityTest(unittest.TestCase):
    ROWS = ((((0, 2), (1, -3)), 7), ((), -4))

    def test_numbers(self):
        expected = list(self.ROWS) + [(((0, 1),), 5), (((0, -1),), 2), (((1, 1),), 9), (((1, -1),), -4)]
        for q, told in enumerate(expected):
            self.assertEqual(inequality((-2, 4), (5, 9), self.ROWS, q), told)
        for q, told in enumerate(expected[2:]):
            self.assertEqual(inequality((-2, 4), (5, 9), (), q), told)

    def test_combinations(self):
        for weights, told in (
            ((), ((), 0)),
            (((0, 1),), self.ROWS[0]),
            (((0, 3),), (((0, 6), (1, -9)), 21)),
            (((0, 1), (1, 2)), (((0, 2), (1, -3)), -1)),
            (((0, 1), (3, 2)), (((1, -3),), 11)),
            (((0, 1), (3, 2), (4, 3)), ((), 38)),
            (((2, 1), (3, 1)), ((), 7)),
            (((4, GREAT), (5, 1)), (((1, GREAT - 1),), 9 * GREAT - 4)),
        ):
            self.assertEqual(combination((-2, 4), (5, 9), self.ROWS, weights), told)


class OptimumTest(ProgramTest):
    def test_without_rows(self):
        self.check_best(((-2, 1), (3, 4), (), ((0, 2), (1, -1))), 5, (3, 1))
        self.check_best(((-2, 1), (3, 4), (), ((0, -2),)), 4, (-2, 4))
        self.check_best(((0,), (0,), (), ()), 0, (0,))

    def test_rows_without_terms(self):
        for rhs in (0, 1, GREAT):
            self.check_best(((0,), (4,), (((), rhs),), ((0, 1),)), 4, (4,))
        for rhs in (-1, -GREAT):
            self.check_none(((0,), (4,), (((), rhs),), ((0, 1),)))
            self.check_none(((0,), (4,), ((((0, 1),), 3), ((), rhs), ((), 2)), ()))

    def test_low_equal_to_high(self):
        self.check_best(((3, 0), (3, 4), ((((0, 1), (1, 2)), 8),), ((1, 1),)), Fraction(5, 2), (3, Fraction(5, 2)))
        self.check_none(((3, 2), (3, 2), ((((0, 1), (1, 2)), 6),), ()))
        self.check_best(((3, 2), (3, 2), ((((0, 1), (1, 2)), 7),), ()), 0, (3, 2))

    def test_a_column_that_does_not_occur_in_the_aim(self):
        row = (((0, 1), (1, 1), (2, 2)), 7)
        self.check_best(((0, 0, 0), (4, 4, 4), (row,), ((1, 1),)), 4, (3, 4, 0))
        self.check_best(((0, 0, 0), (4, 4, 4), (row,), ((1, -1),)), 0, (4, 0, Fraction(3, 2)))

    def test_several_positions_of_the_greatest_sum(self):
        row = (((0, 1), (1, 1), (2, 1)), 6)
        self.check_best(((0, 0, 0), (4, 4, 4), (row,), ((0, 1), (1, 1), (2, 1))), 6, (4, 2, 0))
        self.check_best(((0, 0, 0), (4, 1, 4), (row,), ((0, 1), (1, 1), (2, 1))), 6, (4, 1, 1))
        self.check_best(((0, 0, 0), (4, 4, 4), (row,), ((1, 1), (2, 1))), 6, (0, 4, 2))
        self.check_best(((0, 0, 0), (4, 4, 4), (row,), ()), 0, (4, 2, 0))

    def test_without_a_feasible_position(self):
        self.check_none(((0, 0), (4, 4), ((((0, 1), (1, 1)), 3), (((0, -1), (1, -1)), -4)), ((0, 1),)))
        self.check_none(((0, 0), (4, 4), ((((0, -1), (1, -1)), -9),), ()))
        self.check_none(((1,), (4,), ((((0, 1),), 0),), ((0, -1),)))

    def test_equal_and_opposite_rows(self):
        row = (((0, 2), (1, 3)), 7)
        opposite = (((0, -2), (1, -3)), -7)
        best = (2, (2, 1))
        self.check_best(((0, 0), (2, 4), (row, row), ((0, 1),)), *best)
        self.check_best(((0, 0), (2, 4), (row, opposite), ((0, 1),)), *best)
        self.check_best(((0, 0), (2, 4), (opposite, row, row, opposite), ((0, 1),)), *best)
        self.check_none(((0, 0), (2, 4), (row, (opposite[0], -8)), ((0, 1),)))
        self.check_best(((0, 0), (4, 4), (row, opposite), ((1, -1),)), 0, (Fraction(7, 2), 0))

    def test_great_numbers(self):
        row = (((0, 3 * GREAT), (1, 2)), GREAT ** 2)
        self.check_best(((0, 0), (GREAT, 5), (row,), ((0, 1),)), Fraction(GREAT, 3), (Fraction(GREAT, 3), 0))
        self.check_none(((0, 0), (GREAT, 5), (row, (((0, -1),), -GREAT)), ((0, 1),)))

    def test_random_programs(self):
        rng = random.Random(59)
        kinds = {}
        for _ in range(500):
            program = random_program(rng)
            best = plain_optimum(program)
            if best is None:
                self.check_none(program)
                kind = "none"
            else:
                self.check_best(program, *best)
                kind = "point" if all(a.denominator == 1 for a in best[1]) else "between"
            kinds[kind] = kinds.get(kind, 0) + 1
        self.assertGreater(min(kinds.values()), 60, kinds)
        self.assertEqual(len(kinds), 3)

    def test_arguments_stay_as_they_are(self):
        program = random_program(random.Random(3))
        optimum(*program)
        rounding(*program)
        self.assertEqual(program, random_program(random.Random(3)))


class RoundingTest(ProgramTest):
    def test_none(self):
        self.assertIsNone(rounding((0,), (4,), ((((0, 1),), 3),), ((0, 1),)))
        self.assertIsNone(rounding((0,), (4,), ((((0, 1),), -3),), ((0, 1),)))
        # The value of the optimum is an integer, as the best position is a point.
        self.assertIsNone(rounding((0, 0), (4, 4), ((((0, 2), (1, 2)), 8),), ((0, 1), (1, 1))))

    def test_one_column(self):
        self.check_rounding(((0,), (4,), ((((0, 2),), 7),), ((0, 1),)), (Fraction(7, 2),))
        self.check_rounding(((0,), (4,), ((((0, -2),), -3),), ((0, -1),)), (Fraction(3, 2),))

    def test_where_the_optimum_is_an_integer(self):
        program = ((0, 0), (4, 4), ((((0, 2), (1, -2)), 1), (((0, 2), (1, 2)), 3)), ((0, 2),))
        self.check_best(program, 2, (1, Fraction(1, 2)))

    def test_repeated_roundings_reach_a_point(self):
        rng = random.Random(62)
        for _ in range(60):
            lows, highs, rows, aim = random_program(rng)
            points = sorted(points_of((lows, highs, rows, aim)), key=lambda point: (total(aim, point), point))
            for _ in range(60):
                told = rounding(lows, highs, rows, aim)
                if told is None:
                    break
                terms, rhs = combination(lows, highs, rows, told[1])
                rows = rows + ((tuple((j, c // told[0]) for j, c in terms), rhs // told[0]),)
            end = optimum(lows, highs, rows, aim)
            if points:
                self.assertEqual(as_fractions(end[2]), points[-1])
            else:
                self.assertEqual(end[0], "none")


if __name__ == "__main__":
    unittest.main()
