"""Linear programs for tests, and what the promises say of them, done in the plainest way with fractions."""

import itertools
from fractions import Fraction


def all_inequalities(lows, highs, rows):
    found = list(rows)
    for j, (low, high) in enumerate(zip(lows, highs)):
        found += [(((j, 1),), high), (((j, -1),), -low)]
    return found


def total(terms, position):
    return sum((c * position[j] for j, c in terms), Fraction(0))


def is_feasible(program, position):
    lows, highs, rows, _ = program
    return all(total(terms, position) <= rhs for terms, rhs in all_inequalities(lows, highs, rows))


def solved(equations, many):
    """Return the one position at which the sums are equal to the right-hand sides, or None."""
    matrix = []
    for terms, rhs in equations:
        line = [Fraction(0)] * many + [Fraction(rhs)]
        for j, c in terms:
            line[j] += c
        matrix.append(line)
    for j in range(many):
        pivot = next((line for line in matrix[j:] if line[j] != 0), None)
        if pivot is None:
            return None
        matrix.remove(pivot)
        pivot = [a / pivot[j] for a in pivot]
        matrix = [[a - line[j] * b for a, b in zip(line, pivot)] for line in matrix]
        matrix.insert(j, pivot)
    return tuple(line[many] for line in matrix)


def plain_optimum(program):
    """Return the value and the best position, or None, by looking at all corners."""
    lows, highs, rows, aim = program
    best = None
    for chosen in itertools.combinations(all_inequalities(lows, highs, rows), len(lows)):
        corner = solved(chosen, len(lows))
        if corner is not None and is_feasible(program, corner):
            best = max(best, (total(aim, corner), corner)) if best else (total(aim, corner), corner)
    return best


def as_fractions(position):
    return tuple(Fraction(top, bottom) for top, bottom in position)


def random_terms(rng, many, greatest=4):
    numbers = [c for c in range(-greatest, greatest + 1) if c != 0]
    return tuple((j, rng.choice(numbers)) for j in range(many) if rng.random() < 0.7)


def random_program(rng, columns=3, rows=3):
    many = rng.randint(1, columns)
    lows = tuple(rng.randint(-4, 4) for _ in range(many))
    highs = tuple(low + rng.randint(0, 5) for low in lows)
    # Right-hand sides are taken near a point, so that many programs have feasible positions.
    near = [rng.randint(low, high) for low, high in zip(lows, highs)]
    chosen = []
    for _ in range(rng.randint(0, rows)):
        terms = random_terms(rng, many)
        chosen.append((terms, sum(c * near[j] for j, c in terms) + rng.randint(-2, 3)))
    return (lows, highs, tuple(chosen), random_terms(rng, many))


def points_of(program):
    """Return the points that satisfy all inequalities of the program."""
    lows, highs, _, _ = program
    points = itertools.product(*[range(low, high + 1) for low, high in zip(lows, highs)])
    return [point for point in points if is_feasible(program, point)]
