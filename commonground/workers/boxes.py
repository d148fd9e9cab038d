"""Boxes: pairs (lows, highs) of bounds for all unknowns of a model, and whether bodies hold somewhere in them."""

from commonground.facts.fact import as_literal
from commonground.model.body import unknowns_of
from commonground.model.literal import negated
from commonground.workers.reach import linear_may_hold, may_hold


def whole_box(model):
    """Return the box of all points inside."""
    unknowns = list(range(model.many()))
    return (tuple(model.low(v) for v in unknowns), tuple(model.high(v) for v in unknowns))


def in_box(box, point):
    """Return True if the point is in the box."""
    lows, highs = box
    return all(low <= a <= high for low, a, high in zip(lows, point, highs))


def rest_after(model, facts):
    """Return the box that is left by those facts that count as a lower or an upper bound, or None."""
    lows, highs = whole_box(model)
    lows = list(lows)
    highs = list(highs)
    for fact in facts:
        literal = as_literal(fact)
        if literal is not None:
            v, relation, a = literal
            if relation == "<=":
                highs[v] = min(highs[v], a)
            elif relation == ">=":
                lows[v] = max(lows[v], a)
    if any(low > high for low, high in zip(lows, highs)):
        return None
    return (tuple(lows), tuple(highs))


def clause_against(model, box, unknowns):
    """Return the clause that holds where one of the unknowns has a value that is not in the box."""
    lows, highs = box
    literals = []
    for v in unknowns:
        if lows[v] > model.low(v):
            literals.append((v, "<=", lows[v] - 1))
        if highs[v] < model.high(v):
            literals.append((v, ">=", highs[v] + 1))
    return ("any", tuple(literals))


def support_cost(body, box):
    """Return the number of choices of values in the box for the unknowns of the body."""
    lows, highs = box
    cost = 1
    for v in unknowns_of(body):
        cost = cost * (highs[v] - lows[v] + 1)
    return cost


def row_has_support(body, box):
    """Tell whether a row body holds somewhere in the box."""
    _, terms, relation, rhs = body
    return linear_may_hold(box, terms, relation, rhs)


def any_has_support(body, box):
    """Tell whether an any body holds somewhere in the box."""
    return any(may_hold(box, literal) for literal in body[1])


def when_has_support(body, box):
    """Tell whether a when body holds somewhere in the box."""
    _, literal, terms, relation, rhs = body
    return may_hold(box, negated(literal)) or linear_may_hold(box, terms, relation, rhs)


def different_has_support(body, box):
    """Tell whether a different body holds somewhere in the box."""
    lows, highs = box
    taken = {}
    # Whoever must stop first takes the first value that is free: no other unknown needs it more.
    for high, low in sorted([(highs[v], lows[v]) for v in body[1]]):
        a = low
        while a in taken:
            a += 1
        if a > high:
            return False
        taken[a] = True
    return True


def table_has_support(body, box):
    """Tell whether a table body holds somewhere in the box."""
    lows, highs = box
    _, unknowns, rows = body
    ends = [(lows[v], highs[v]) for v in unknowns]
    for row in rows:
        if all(low <= a <= high for a, (low, high) in zip(row, ends)):
            return True
    return False


def element_has_support(body, box):
    """Tell whether an element body holds somewhere in the box."""
    lows, highs = box
    _, x, entries, z = body
    for k, entry in enumerate(entries):
        if lows[x] <= k <= highs[x] and lows[z] <= entry <= highs[z] and (x != z or k == entry):
            return True
    return False


def times_has_support(body, box):
    """Tell whether a times body holds somewhere in the box."""
    lows, highs = box
    _, x, y, z = body
    for a in range(lows[x], highs[x] + 1):
        first = (a, a) if y == x else (lows[y], highs[y])
        result = (a, a) if z == x else (lows[z], highs[z])
        if z == y and y != x:
            # Then the product of a and the value of y is the value of y.
            if a == 1 or first[0] <= 0 <= first[1]:
                return True
        elif product_between(a, first, result):
            return True
    return False


def product_between(a, ends, result):
    """Tell whether a times some integer between the ends lies between the ends of the result."""
    low, high = result
    if a < 0:
        a, low, high = -a, -high, -low
    if a == 0:
        return low <= 0 <= high
    # The factors that lead there are those from the quotient of low, rounded up, to that of high, rounded down.
    return max(ends[0], -(-low // a)) <= min(ends[1], high // a)


SUPPORTS = {
    "row": row_has_support,
    "any": any_has_support,
    "when": when_has_support,
    "different": different_has_support,
    "table": table_has_support,
    "element": element_has_support,
    "times": times_has_support,
}


def has_support(body, box):
    """Return True if the body holds at some point of the box."""
    supported = SUPPORTS[body[0]]
    return supported(body, box)
