"""Optima of linear programs with weights that prove them, and roundings that cut off their best positions."""

from commonground.exact.program import inequality_of
from commonground.exact.ratio import ratio
from commonground.exact.tableau import Tableau


def inequality(lows, highs, rows, q):
    """Return the terms and the rhs of the inequality q."""
    return inequality_of(lows, highs, rows, q)


def combination(lows, highs, rows, weights):
    """Return the terms and the rhs of the combination of the inequalities with these weights."""
    totals = {}
    side = 0
    for q, m in weights:
        terms, rhs = inequality_of(lows, highs, rows, q)
        for j, c in terms:
            totals[j] = totals.get(j, 0) + m * c
        side = side + m * rhs
    return (tuple((j, totals[j]) for j in sorted(totals) if totals[j] != 0), side)


def weights_from(numbers, amounts):
    """Return the weights with these numbers of inequalities and these amounts, some of which may be 0."""
    return tuple(sorted([(q, m) for q, m in zip(numbers, amounts) if m != 0]))


def optimum(lows, highs, rows, aim):
    """Return the optimum with weights that bound the program, or "none" and weights that refute it."""
    tableau = Tableau(lows, highs, rows, aim)
    if tableau.settle() == "none":
        _, q = tableau.choose()
        # The slack of q is a negative constant less multiples of slacks, so it is negative at every position.
        scale, _, coefs = tableau.slack_equation(q)
        return ("none", weights_from((q, *tableau.free()), [scale] + [-c for c in coefs]))
    scale, constant, coefs = tableau.aim_equation()
    # All grades are falling, so none of these coefs is positive.
    weights = weights_from(tableau.free(), [-c for c in coefs])
    return ("best", ratio(constant, scale), tableau.corner(), scale, weights)


def rounding(lows, highs, rows, aim):
    """Return a scale and weights whose rounded combination cuts off the best position, or None."""
    tableau = Tableau(lows, highs, rows, aim)
    if tableau.settle() == "none":
        return None
    equations = [tableau.aim_equation()] + [tableau.column_equation(j) for j in range(len(lows))]
    # The order is that in which best positions are compared, so each cut makes the first broken quantity less.
    for scale, constant, coefs in equations:
        if constant % scale != 0:
            # Multiples of the scale change neither divisibility nor what is lost by the floor, but a small weight
            # cuts off more.
            return (scale, weights_from(tableau.free(), [-c % scale for c in coefs]))
    return None
