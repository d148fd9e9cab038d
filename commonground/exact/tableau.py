"""Tableaus: all quantities of a linear program by the slacks of some of its inequalities."""

from math import gcd

from commonground.errors import Refused
from commonground.exact.program import inequalities, inequality_of
from commonground.exact.ratio import ratio


def lowest(scale, constant, coefs):
    """Return the equation in lowest terms."""
    divisor = gcd(scale, constant)
    for c in coefs:
        divisor = gcd(divisor, c)
    return (scale // divisor, constant // divisor, tuple(c // divisor for c in coefs))


class Tableau:
    """The columns of a program as equations in the slacks of its free inequalities.

    All columns have one scale, the determinant of the free inequalities. Therefore no division leaves a rest.
    """

    def __init__(self, lows, highs, rows, aim):
        self.lows = lows
        self.highs = highs
        self.rows = rows
        self.aim_terms = aim
        self.places = []
        self.scale = 1
        self.constants = []
        self.coefs = []
        negative = [j for j, c in aim if c < 0]
        for j in range(len(lows)):
            self.begin(j, j in negative)

    def begin(self, j, at_low):
        """Set column j, and place j, to one of the bounds of this column."""
        self.places.append(len(self.rows) + 2 * j + (1 if at_low else 0))
        self.constants.append(self.lows[j] if at_low else self.highs[j])
        coefs = [0] * len(self.lows)
        coefs[j] = 1 if at_low else -1
        self.coefs.append(coefs)

    def free(self):
        """Return the tuple of the numbers of the free inequalities."""
        return tuple(self.places)

    def summed(self, terms):
        """Return the constant and the list of the coefs for the sum of the terms, times the scale."""
        constant = 0
        coefs = [0] * len(self.places)
        for j, c in terms:
            constant = constant + c * self.constants[j]
            coefs = [a + c * b for a, b in zip(coefs, self.coefs[j])]
        return (constant, coefs)

    def slack(self, q):
        """Return the constant and the list of the coefs for the slack of the inequality q, times the scale."""
        terms, rhs = inequality_of(self.lows, self.highs, self.rows, q)
        constant, coefs = self.summed(terms)
        return (self.scale * rhs - constant, [-c for c in coefs])

    def aim_equation(self):
        """Return the equation of the sum of the aim."""
        constant, coefs = self.summed(self.aim_terms)
        return lowest(self.scale, constant, coefs)

    def column_equation(self, j):
        """Return the equation of the value of column j."""
        return lowest(self.scale, self.constants[j], self.coefs[j])

    def slack_equation(self, q):
        """Return the equation of the slack of the inequality q."""
        constant, coefs = self.slack(q)
        return lowest(self.scale, constant, coefs)

    def corner(self):
        """Return the position at which the slacks of all free inequalities are 0."""
        return tuple(ratio(constant, self.scale) for constant in self.constants)

    def pivot(self, q, k):
        """Put the inequality q at place k."""
        if not 0 <= q < inequalities(self.lows, self.highs, self.rows) or not 0 <= k < len(self.places):
            raise Refused()
        constant, coefs = self.slack(q)
        if q in self.places or coefs[k] == 0:
            raise Refused()
        for j in range(len(self.coefs)):
            self.replace_slack(j, k, constant, coefs)
        self.places[k] = q
        self.scale = abs(coefs[k])

    def replace_slack(self, j, k, constant, coefs):
        """In the equation of column j, replace the slack at place k by the one with this constant and coefs."""
        sign = 1 if coefs[k] > 0 else -1
        taken = sign * self.coefs[j][k]
        pivot = abs(coefs[k])
        self.constants[j] = (pivot * self.constants[j] - taken * constant) // self.scale
        changed = [(pivot * a - taken * b) // self.scale for a, b in zip(self.coefs[j], coefs)]
        changed[k] = taken
        self.coefs[j] = changed

    def choose(self):
        """Return what comes next: ("best",), ("none", q) or ("pivot", q, k)."""
        q = self.first_violated()
        if q is None:
            return ("best",)
        _, coefs = self.slack(q)
        best = None
        for k, c in enumerate(coefs):
            if c > 0 and (best is None or self.is_above(k, best, coefs)):
                best = k
        if best is None:
            return ("none", q)
        return ("pivot", q, best)

    def first_violated(self):
        """Return the first inequality whose slack at the corner is negative, or None."""
        for q in range(inequalities(self.lows, self.highs, self.rows)):
            terms, rhs = inequality_of(self.lows, self.highs, self.rows, q)
            if self.scale * rhs < sum(c * self.constants[j] for j, c in terms):
                return q
        return None

    def is_above(self, k, other, coefs):
        """Tell whether the grade of place k, divided by its own one of the coefs, is above that of the other place."""
        first = [c * coefs[other] for c in self.grade(k)]
        second = [c * coefs[k] for c in self.grade(other)]
        return first > second

    def grade(self, k):
        """Return the grade of place k as a list, times the scale."""
        return [sum(c * self.coefs[j][k] for j, c in self.aim_terms)] + [coefs[k] for coefs in self.coefs]

    def settle(self):
        """Perform the chosen pivots until there are none left, and return "best" or "none"."""
        told = self.choose()
        while told[0] == "pivot":
            self.pivot(told[1], told[2])
            told = self.choose()
        return told[0]
