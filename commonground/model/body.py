"""Bodies of constraints: where they hold, and whether they fit a model."""

from commonground.model.literal import literal_holds, relation_holds, terms_sum

RELATIONS = ("<=", ">=", "=", "!=")
LINEAR_RELATIONS = ("<=", ">=", "=")
MOST_SIGNS = 20
MOST_TERMS = 60
MOST_LITERALS = 40
MOST_DIFFERENT = 20
MOST_COLUMNS = 6
MOST_ROWS = 200
MOST_ENTRIES = 60
GREATEST_FACTOR = 1000000
GREATEST_SIDE = 1000000000
GREATEST_ENTRY = 1000
GREATEST_IN_LITERAL = 1001


def is_label(text):
    """Return True if the string is a label."""
    if not 1 <= len(text) <= MOST_SIGNS or not "a" <= text[0] <= "z":
        return False
    return all("a" <= sign <= "z" or "0" <= sign <= "9" for sign in text)


def linear_holds(terms, relation, rhs, point):
    """Return True if the sum of the terms at the point stands in the relation to rhs."""
    return relation_holds(relation, terms_sum(terms, point), rhs)


def row_holds(body, point):
    """Tell whether a row body holds."""
    _, terms, relation, rhs = body
    return linear_holds(terms, relation, rhs, point)


def any_holds(body, point):
    """Tell whether an any body holds."""
    return any(literal_holds(literal, point[literal[0]]) for literal in body[1])


def when_holds(body, point):
    """Tell whether a when body holds."""
    _, literal, terms, relation, rhs = body
    return not literal_holds(literal, point[literal[0]]) or linear_holds(terms, relation, rhs, point)


def different_holds(body, point):
    """Tell whether a different body holds."""
    worths = [point[v] for v in body[1]]
    return len(set(worths)) == len(worths)


def table_holds(body, point):
    """Tell whether a table body holds."""
    _, unknowns, rows = body
    return tuple(point[v] for v in unknowns) in rows


def element_holds(body, point):
    """Tell whether an element body holds."""
    _, x, entries, z = body
    return 0 <= point[x] < len(entries) and entries[point[x]] == point[z]


def times_holds(body, point):
    """Tell whether a times body holds."""
    _, x, y, z = body
    return point[x] * point[y] == point[z]


HOLDS = {
    "row": row_holds,
    "any": any_holds,
    "when": when_holds,
    "different": different_holds,
    "table": table_holds,
    "element": element_holds,
    "times": times_holds,
}


def body_holds(body, point):
    """Return True if the body holds at the point, which need not be inside."""
    holds = HOLDS[body[0]]
    return holds(body, point)


def unknowns_of(body):
    """Return the list of the unknowns of the body, ascending."""
    kind = body[0]
    if kind == "row":
        found = [v for v, _ in body[1]]
    elif kind == "any":
        found = [literal[0] for literal in body[1]]
    elif kind == "when":
        found = [body[1][0]] + [v for v, _ in body[2]]
    elif kind in ("different", "table"):
        found = list(body[1])
    elif kind == "element":
        found = [body[1], body[3]]
    else:
        found = list(body[1:])
    return sorted(set(found))


def terms_fit(terms, many):
    """Return True if the terms fit a model with this many unknowns."""
    if len(terms) > MOST_TERMS:
        return False
    last = -1
    for v, c in terms:
        if not last < v < many or c == 0 or abs(c) > GREATEST_FACTOR:
            return False
        last = v
    return True


def side_fits(rhs):
    """Return True if the number may stand on the right-hand side, or as the constant of a goal."""
    return abs(rhs) <= GREATEST_SIDE


def linear_fits(terms, relation, rhs, many):
    """Return True if a linear condition fits a model with this many unknowns."""
    return relation in LINEAR_RELATIONS and terms_fit(terms, many) and side_fits(rhs)


def literal_fits(literal, many):
    """Return True if the literal fits a model with this many unknowns."""
    v, relation, a = literal
    return 0 <= v < many and relation in RELATIONS and abs(a) <= GREATEST_IN_LITERAL


def unknowns_fit(unknowns, many):
    """Return True if the numbers are those of unknowns of the model, no two of them equal."""
    return len(set(unknowns)) == len(unknowns) and all(0 <= v < many for v in unknowns)


def entries_fit(entries):
    """Return True if the entries of a table row or of an element body are within their bounds."""
    return all(abs(a) <= GREATEST_ENTRY for a in entries)


def row_fits(body, many):
    """Tell whether a row body fits."""
    _, terms, relation, rhs = body
    return linear_fits(terms, relation, rhs, many)


def any_fits(body, many):
    """Tell whether an any body fits."""
    literals = body[1]
    if not 1 <= len(literals) <= MOST_LITERALS or len(set(literals)) != len(literals):
        return False
    return all(literal_fits(literal, many) for literal in literals)


def when_fits(body, many):
    """Tell whether a when body fits."""
    _, literal, terms, relation, rhs = body
    return literal_fits(literal, many) and linear_fits(terms, relation, rhs, many)


def different_fits(body, many):
    """Tell whether a different body fits."""
    return 2 <= len(body[1]) <= MOST_DIFFERENT and unknowns_fit(body[1], many)


def table_fits(body, many):
    """Tell whether a table body fits."""
    _, unknowns, rows = body
    if not 1 <= len(unknowns) <= MOST_COLUMNS or not 1 <= len(rows) <= MOST_ROWS:
        return False
    if not unknowns_fit(unknowns, many):
        return False
    return all(len(row) == len(unknowns) and entries_fit(row) for row in rows)


def element_fits(body, many):
    """Tell whether an element body fits."""
    _, x, entries, z = body
    return 1 <= len(entries) <= MOST_ENTRIES and entries_fit(entries) and 0 <= x < many and 0 <= z < many


def times_fits(body, many):
    """Tell whether a times body fits."""
    return all(0 <= v < many for v in body[1:])


FITS = {
    "row": row_fits,
    "any": any_fits,
    "when": when_fits,
    "different": different_fits,
    "table": table_fits,
    "element": element_fits,
    "times": times_fits,
}

PARTS = {"row": 4, "any": 2, "when": 5, "different": 2, "table": 3, "element": 4, "times": 4}


def body_fits(body, many):
    """Return True if the body fits a model with this many unknowns."""
    kind = body[0]
    if kind not in FITS or len(body) != PARTS[kind]:
        return False
    fits = FITS[kind]
    return fits(body, many)
