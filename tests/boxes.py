"""What the promises say of consistent boxes, done once more in the plainest way, with lists of values."""

import itertools

from tests import naive


def worths(box, v):
    return range(box[0][v], box[1][v] + 1)


def is_possible(box, literal):
    v, relation, a = literal
    return any(naive.SIGNS[relation](x, a) for x in worths(box, v))


def is_sure(box, literal):
    v, relation, a = literal
    return all(naive.SIGNS[relation](x, a) for x in worths(box, v))


def keeps(box, literal):
    v, relation, a = literal
    low, high = box[0][v], box[1][v]
    return {"<=": high <= a, ">=": low >= a, "=": low == a == high, "!=": low != a and high != a}[relation]


def opposite(literal):
    v, relation, a = literal
    return {"<=": (v, ">=", a + 1), ">=": (v, "<=", a - 1), "=": (v, "!=", a), "!=": (v, "=", a)}[relation]


def least_sum(box, terms):
    return sum(min(c * x for x in worths(box, v)) for v, c in terms)


def row_ok(box, row):
    _, terms, rhs = row
    if least_sum(box, terms) > rhs:
        return False
    for v, c in terms:
        others = least_sum(box, [term for term in terms if term[0] != v])
        if any(others + c * x > rhs for x in worths(box, v)):
            return False
    return True


def clause_ok(box, clause):
    possible = [literal for literal in clause[1] if is_possible(box, literal)]
    return len(possible) > 1 or len(possible) == 1 and keeps(box, possible[0])


def fact_ok(box, fact):
    return row_ok(box, fact) if fact[0] == "row" else clause_ok(box, fact)


def rows_of(terms, relation, rhs):
    below = ("row", terms, rhs)
    above = ("row", tuple((v, -c) for v, c in terms), -rhs)
    return {"<=": [below], ">=": [above], "=": [below, above]}[relation]


def supports(box, body):
    unknowns = naive.body_unknowns(body)
    choices = itertools.product(*[worths(box, v) for v in unknowns])
    return unknowns, [choice for choice in choices if naive.body_is_met(body, dict(zip(unknowns, choice)))]


def body_ok(box, body):
    kind = body[0]
    if kind == "row":
        return all(row_ok(box, row) for row in rows_of(*body[1:]))
    if kind == "any":
        return clause_ok(box, body)
    if kind == "when":
        rows = rows_of(*body[2:])
        if is_sure(box, body[1]):
            return all(row_ok(box, row) for row in rows)
        impossible = any(least_sum(box, terms) > rhs for _, terms, rhs in rows)
        return not impossible or keeps(box, opposite(body[1]))
    if kind == "different":
        fixed = {x: box[0][x] for x in body[1] if box[0][x] == box[1][x]}
        return all(a not in (box[0][y], box[1][y]) for x, a in fixed.items() for y in body[1] if y != x)
    if kind == "times":
        pairs = len(worths(box, body[1])) * (1 if body[1] == body[2] else len(worths(box, body[2])))
        if pairs > 400:
            return True
    unknowns, found = supports(box, body)
    ends = [(min(column), max(column)) for column in zip(*found)]
    return ends == [(box[0][v], box[1][v]) for v in unknowns]


def all_ok(box, model, facts):
    return all(body_ok(box, body) for _, body in model.told()[1]) and all(fact_ok(box, fact) for fact in facts)


def boxes_in(bounds):
    """Return all boxes that lie in the box with these bounds."""
    choices = [[(a, b) for a in range(low, high + 1) for b in range(a, high + 1)] for low, high in bounds]
    return [tuple(zip(*chosen)) for chosen in itertools.product(*choices)]


def lies_in(box, other):
    return all(low <= a for low, a in zip(other[0], box[0])) and all(b <= high for b, high in zip(box[1], other[1]))


def greatest(boxes):
    """Return the least box in which all of the boxes lie, or None if there are none."""
    if not boxes:
        return None
    return (tuple(map(min, zip(*[lows for lows, _ in boxes]))), tuple(map(max, zip(*[highs for _, highs in boxes]))))


def random_box(rng, bounds):
    return tuple(zip(*[sorted((rng.randint(low, high), rng.randint(low, high))) for low, high in bounds]))
