"""Promises [63] to [67]: tableaus."""

import math
import random
import unittest
from fractions import Fraction

from commonground.errors import Refused
from commonground.exact.tableau import Tableau
from tests.programs import (
    all_inequalities, as_fractions, is_feasible, plain_optimum, random_program, random_terms, solved, total,
)


def told(tableau, program):
    """Return everything that the tableau tells."""
    lows, highs, rows, _ = program
    many = len(rows) + 2 * len(lows)
    return (
        tableau.free(), tableau.aim_equation(), [tableau.column_equation(j) for j in range(len(lows))],
        [tableau.slack_equation(q) for q in range(many)], tableau.corner(),
    )


def grades(tableau, program):
    """Return the grades as lists of fractions."""
    equations = [tableau.aim_equation()] + [tableau.column_equation(j) for j in range(len(program[0]))]
    return [[Fraction(coefs[k], scale) for scale, _, coefs in equations] for k in range(len(program[0]))]


def are_falling(tableau, program):
    return all(next(c for c in grade if c != 0) < 0 for grade in grades(tableau, program))


class EquationTest(unittest.TestCase):
    def check_equation(self, equation, quantity, slacks):
        scale, constant, coefs = equation
        self.assertIsInstance(coefs, tuple)
        self.assertEqual(len(coefs), len(slacks))
        self.assertGreaterEqual(scale, 1)
        self.assertEqual(math.gcd(scale, constant, *coefs), 1)
        self.assertEqual(scale * quantity, constant + sum(c * s for c, s in zip(coefs, slacks)))

    def check_all(self, rng, tableau, program):
        """Check all equations at some positions, feasible or not."""
        lows, highs, rows, aim = program
        ineqs = all_inequalities(lows, highs, rows)
        for _ in range(3):
            at = tuple(Fraction(rng.randint(-20, 20), rng.randint(1, 5)) for _ in lows)
            slacks = [rhs - total(terms, at) for terms, rhs in ineqs]
            free = [slacks[q] for q in tableau.free()]
            self.check_equation(tableau.aim_equation(), total(aim, at), free)
            for j in range(len(lows)):
                self.check_equation(tableau.column_equation(j), at[j], free)
            for q in range(len(ineqs)):
                self.check_equation(tableau.slack_equation(q), slacks[q], free)
        self.assertEqual(as_fractions(tableau.corner()), solved([ineqs[q] for q in tableau.free()], len(lows)))

    def test_random_pivots(self):
        rng = random.Random(63)
        pivots = 0
        for _ in range(150):
            program = random_program(rng)
            many = len(program[2]) + 2 * len(program[0])
            tableau = Tableau(*program)
            self.check_all(rng, tableau, program)
            for _ in range(6):
                q, k = rng.randrange(many), rng.randrange(len(program[0]))
                free = tableau.free()
                if q in free or tableau.slack_equation(q)[2][k] == 0:
                    continue
                self.assertIsNone(tableau.pivot(q, k))
                self.assertEqual(tableau.free(), free[:k] + (q,) + free[k + 1:])
                self.assertEqual(len(set(tableau.free())), len(program[0]))
                self.check_all(rng, tableau, program)
                pivots += 1
        self.assertGreater(pivots, 300)

    def test_a_free_slack_is_itself(self):
        tableau = Tableau((0, 0), (4, 4), ((((0, 2), (1, 3)), 7),), ((0, 1),))
        self.assertEqual(tableau.slack_equation(1), (1, 0, (1, 0)))
        tableau.pivot(0, 0)
        self.assertEqual(tableau.slack_equation(0), (1, 0, (1, 0)))
        self.assertEqual(tableau.column_equation(0), (2, -5, (-1, 3)))
        self.assertEqual(tableau.column_equation(1), (1, 4, (0, -1)))
        self.assertEqual(tableau.corner(), ((-5, 2), (4, 1)))

    def test_great_numbers(self):
        great = 10 ** 60
        tableau = Tableau((-great, 0), (great, 5), ((((0, 3 * great), (1, -7)), great ** 2),), ((1, great),))
        tableau.pivot(0, 0)
        self.assertEqual(as_fractions(tableau.corner()), (Fraction(great ** 2 + 35, 3 * great), 5))
        self.assertEqual(tableau.aim_equation(), (1, 5 * great, (0, -great)))


class FirstTableauTest(unittest.TestCase):
    def test_bounds_by_the_sign_in_the_aim(self):
        lows, highs = (-2, -3, -5, -6), (7, 11, 13, 17)
        for rows in ((), ((((0, 1),), 0), ((), 4))):
            m = len(rows)
            tableau = Tableau(lows, highs, rows, ((0, 3), (1, -1), (3, -8)))
            self.assertEqual(tableau.free(), (m, m + 3, m + 4, m + 7))
            self.assertEqual(tableau.corner(), ((7, 1), (-3, 1), (13, 1), (-6, 1)))
            self.assertEqual(tableau.aim_equation(), (1, 72, (-3, -1, 0, -8)))
            self.assertEqual(tableau.column_equation(0), (1, 7, (-1, 0, 0, 0)))
            self.assertEqual(tableau.column_equation(1), (1, -3, (0, 1, 0, 0)))
            self.assertEqual(tableau.column_equation(2), (1, 13, (0, 0, -1, 0)))
            self.assertEqual(tableau.slack_equation(m + 3), (1, 0, (0, 1, 0, 0)))
            self.assertEqual(tableau.slack_equation(m + 2), (1, 14, (0, -1, 0, 0)))

    def test_equal_bounds_and_no_aim(self):
        tableau = Tableau((3,), (3,), (), ())
        self.assertEqual(tableau.free(), (0,))
        self.assertEqual(tableau.aim_equation(), (1, 0, (0,)))
        self.assertEqual(tableau.slack_equation(1), (1, 0, (-1,)))

    def test_grades_are_falling(self):
        rng = random.Random(64)
        for _ in range(100):
            program = random_program(rng)
            self.assertTrue(are_falling(Tableau(*program), program))

    def test_equations_are_in_lowest_terms(self):
        tableau = Tableau((0,), (4,), ((((0, 6),), 12),), ((0, 10),))
        self.assertEqual(tableau.slack_equation(0), (1, -12, (6,)))
        tableau.pivot(0, 0)
        self.assertEqual(tableau.column_equation(0), (6, 12, (-1,)))
        self.assertEqual(tableau.aim_equation(), (3, 60, (-5,)))
        self.assertEqual(tableau.slack_equation(1), (6, 12, (1,)))
        self.assertEqual(tableau.corner(), ((2, 1),))


class PivotTest(unittest.TestCase):
    PROGRAM = ((0, 0), (4, 4), ((((0, 2),), 7), ((), 3), (((0, 1), (1, 1)), 6)), ((0, 1), (1, 1)))

    def test_refused(self):
        tableau = Tableau(*self.PROGRAM)
        tableau.pivot(0, 0)
        before = told(tableau, self.PROGRAM)
        for q, k in (
            (-1, 0), (7, 0), (100, 0), (2, -1), (2, 2), (2, 100), (-1, -1), (7, 2),
            (0, 0), (0, 1), (5, 0), (5, 1),
            (1, 0), (1, 1), (3, 1), (4, 1), (6, 0),
        ):
            with self.subTest(q=q, k=k):
                self.assertRaises(Refused, tableau.pivot, q, k)
                self.assertEqual(told(tableau, self.PROGRAM), before)
        self.assertEqual(tableau.free(), (0, 5))
        tableau.pivot(2, 1)
        self.assertEqual(tableau.corner(), ((7, 2), (5, 2)))

    def test_arguments_stay_as_they_are(self):
        program = random_program(random.Random(1))
        again = random_program(random.Random(1))
        Tableau(*program).settle()
        self.assertEqual(program, again)


class ChooseTest(unittest.TestCase):
    def test_at_a_feasible_corner(self):
        tableau = Tableau((0, 0), (4, 4), ((((0, 1), (1, 1)), 8),), ((0, 1),))
        self.assertEqual(tableau.choose(), ("best",))
        self.assertEqual(tableau.settle(), "best")

    def test_no_coefficient_is_positive(self):
        tableau = Tableau((1, 1), (4, 4), ((((0, 1), (1, 1)), 9), (((0, 1), (1, 1)), 1)), ((0, -1), (1, -1)))
        self.assertEqual(tableau.choose(), ("none", 1))
        self.assertEqual(tableau.settle(), "none")
        self.assertEqual(tableau.free(), (3, 5))
        tableau = Tableau((1,), (4,), ((((0, 1),), 0), ((), -1)), ((0, -1),))
        self.assertEqual(tableau.choose(), ("none", 0))
        tableau = Tableau((1,), (4,), ((((0, 1),), 3), ((), -1)), ())
        self.assertEqual(tableau.choose(), ("pivot", 0, 0))
        tableau.pivot(0, 0)
        self.assertEqual(tableau.choose(), ("none", 1))

    def test_the_first_violated_inequality(self):
        rows = ((((0, 1),), 9), (((1, 1),), 3), (((0, 1),), 2))
        self.assertEqual(Tableau((0, 0), (4, 4), rows, ((0, 1),)).choose(), ("pivot", 1, 1))
        self.assertEqual(Tableau((0, 0), (4, 4), rows[::-1], ((0, 1),)).choose(), ("pivot", 0, 0))

    def test_the_place_of_the_greatest_grade_by_coefficient(self):
        # The grades are (-3, -1, 0), (-2, 0, -1), divided by the coefficients of the row.
        for first, second, k in ((1, 1, 1), (2, 1, 0), (3, 2, 1), (4, 2, 0), (3, 0, 0), (0, 3, 1), (3, -1, 0)):
            terms = tuple((j, c) for j, c in ((0, first), (1, second)) if c != 0)
            tableau = Tableau((0, 0), (4, 4), ((terms, 1),), ((0, 3), (1, 2)))
            self.assertEqual(tableau.choose(), ("pivot", 0, k), (first, second))

    def test_later_entries_of_the_grades_decide(self):
        # Without an aim, the grades are (0, -1, 0, 0), (0, 0, -1, 0), (0, 0, 0, -1): the last one is the greatest.
        tableau = Tableau((0, 0, 0), (4, 4, 4), ((((0, 1), (1, 2), (2, 3)), 1),), ())
        self.assertEqual(tableau.choose(), ("pivot", 0, 2))
        # (-2, -1, 0) / 2 is below (-1, 0, -1).
        tableau = Tableau((0, 0), (4, 4), ((((0, 2), (1, 1)), 1),), ((0, 2), (1, 1)))
        self.assertEqual(tableau.choose(), ("pivot", 0, 1))

    def test_as_the_promise_says(self):
        rng = random.Random(67)
        kinds = {}
        for _ in range(300):
            program = random_program(rng)
            tableau = Tableau(*program)
            for _ in range(rng.randint(0, 4)):
                q, k = rng.randrange(len(program[2]) + 2), rng.randrange(len(program[0]))
                if q not in tableau.free() and tableau.slack_equation(q)[2][k] != 0:
                    tableau.pivot(q, k)
            before = told(tableau, program)
            chosen = tableau.choose()
            self.assertEqual(told(tableau, program), before)
            self.assertEqual(chosen, self.expected(tableau, program))
            kinds[chosen[0]] = kinds.get(chosen[0], 0) + 1
        self.assertEqual(set(kinds), {"best", "none", "pivot"})

    def expected(self, tableau, program):
        many = len(program[2]) + 2 * len(program[0])
        violated = [q for q in range(many) if tableau.slack_equation(q)[1] < 0]
        if not violated:
            self.assertTrue(is_feasible(program, as_fractions(tableau.corner())))
            return ("best",)
        q = violated[0]
        coefs = tableau.slack_equation(q)[2]
        ranked = [([a / coefs[k] for a in grade], k) for k, grade in enumerate(grades(tableau, program)) if coefs[k] > 0]
        return ("pivot", q, max(ranked)[1]) if ranked else ("none", q)


class SettleTest(unittest.TestCase):
    def at_corner(self, tableau, program):
        corner = as_fractions(tableau.corner())
        return (total(program[3], corner), corner)

    def test_pivots_fall_and_settle_ends(self):
        rng = random.Random(670)
        ends = {"best": 0, "none": 0}
        for _ in range(200):
            program = random_program(rng)
            tableau, other = Tableau(*program), Tableau(*program)
            while tableau.choose()[0] == "pivot":
                before = self.at_corner(tableau, program)
                tableau.pivot(*tableau.choose()[1:])
                self.assertTrue(are_falling(tableau, program))
                self.assertLess(self.at_corner(tableau, program), before)
            self.assertEqual(other.settle(), tableau.choose()[0])
            self.assertEqual(told(other, program), told(tableau, program))
            self.assertEqual(other.settle(), tableau.choose()[0])
            ends[other.settle()] += 1
            best = plain_optimum(program)
            if other.settle() == "best":
                self.assertEqual(self.at_corner(other, program), best)
            else:
                self.assertIsNone(best)
        self.assertGreater(min(ends.values()), 30)

    def test_a_greater_program(self):
        rng = random.Random(671)
        terms = [random_terms(rng, 30, 20) for _ in range(31)]
        rows = tuple((each, 40) for each in terms[1:])
        program = ((0,) * 30, (9,) * 30, rows, terms[0])
        tableau = Tableau(*program)
        self.assertEqual(tableau.settle(), "best")
        self.assertTrue(are_falling(tableau, program))
        self.assertTrue(is_feasible(program, as_fractions(tableau.corner())))


if __name__ == "__main__":
    unittest.main()
