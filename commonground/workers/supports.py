"""Supports: choices of values in a box at which a table, an element or a times body holds."""

from commonground.facts.rules import GREATEST_COST


def as_rows(body):
    """Return unknowns and rows of values: the table or element body holds where the unknowns have one of the rows."""
    if body[0] == "table":
        return (body[1], body[2])
    _, x, entries, z = body
    if x == z:
        return ((x,), tuple((k,) for k, entry in enumerate(entries) if k == entry))
    return ((x, z), tuple(enumerate(entries)))


def supports_in(box, body):
    """Return the unknowns of the body, possibly repeated, and the list of the rows of values in all its supports."""
    if body[0] == "times":
        return (body[1:], products_in(box, body))
    lows, highs = box
    unknowns, rows = as_rows(body)
    ends = [(lows[v], highs[v]) for v in unknowns]
    return (unknowns, [row for row in rows if lies_between(row, ends)])


def lies_between(row, ends):
    """Tell whether each of the values lies between its ends."""
    for a, (low, high) in zip(row, ends):
        if not low <= a <= high:
            return False
    return True


def products_in(box, body):
    """Return the list of the values of x, y and z in the supports of a times body."""
    lows, highs = box
    _, x, y, z = body
    found = []
    for a in range(lows[x], highs[x] + 1):
        factors = [a] if x == y else list(range(lows[y], highs[y] + 1))
        for b in factors:
            result = a * b
            # z may be x or y; then the result must be the value that this unknown has already.
            if lows[z] <= result <= highs[z] and (z != x or result == a) and (z != y or result == b):
                found.append((a, b, result))
    return found


def is_asked(box, body):
    """Return False if the body is a times body with too many values of x and y to be looked at."""
    if body[0] != "times":
        return True
    lows, highs = box
    cost = 1
    for v in sorted({body[1], body[2]}):
        cost = cost * (highs[v] - lows[v] + 1)
    return cost <= GREATEST_COST
