"""Bodies, written and read."""

from commonground.text.linear import condition_words, literal_words, literals_words
from commonground.text.linear import read_condition, read_literal, read_literals
from commonground.text.words import integer_text, read_integer


def names(model, unknowns):
    """Return the list of the names of the unknowns."""
    return [model.name(v) for v in unknowns]


def body_words(model, body):
    """Return the list of the words of the body, from the kind on."""
    kind = body[0]
    if kind == "row":
        return [kind, *condition_words(model, body[1], body[2], body[3])]
    if kind == "any":
        return [kind, *literals_words(model, body[1])]
    if kind == "when":
        return [kind, *literal_words(model, body[1]), *condition_words(model, body[2], body[3], body[4])]
    if kind == "different":
        return [kind, *names(model, body[1])]
    if kind == "table":
        entries = [integer_text(a) for row in body[2] for a in row]
        return [kind, integer_text(len(body[1])), *names(model, body[1]), *entries]
    if kind == "element":
        entries = [integer_text(a) for a in body[2]]
        return [kind, *names(model, (body[1], body[3])), *entries]
    return [kind, *names(model, body[1:])]


def read_row(line, model):
    """Read what follows the kind of a row body."""
    terms, relation, rhs = read_condition(line, model)
    return ("row", terms, relation, rhs)


def read_any(line, model):
    """Read what follows the kind of an any body."""
    return ("any", read_literals(line, model))


def read_when(line, model):
    """Read what follows the kind of a when body."""
    literal = read_literal(line, model)
    terms, relation, rhs = read_condition(line, model)
    return ("when", literal, terms, relation, rhs)


def read_different(line, model):
    """Read what follows the kind of a different body."""
    unknowns = [line.unknown(model)]
    while not line.ended():
        unknowns.append(line.unknown(model))
    return ("different", tuple(unknowns))


def read_table(line, model):
    """Read what follows the kind of a table body."""
    many = line.take(at_least_one(line.ahead()))
    unknowns = []
    while len(unknowns) < many:
        unknowns.append(line.unknown(model))
    rows = [read_table_row(line, many)]
    while not line.ended():
        rows.append(read_table_row(line, many))
    return ("table", tuple(unknowns), tuple(rows))


def at_least_one(word):
    """Return the integer that the word writes if it is at least 1, otherwise None."""
    many = read_integer(word)
    if many is None or many < 1:
        return None
    return many


def read_table_row(line, many):
    """Read a row with so many entries."""
    return tuple([line.integer() for _ in range(many)])


def read_element(line, model):
    """Read what follows the kind of an element body."""
    x = line.unknown(model)
    z = line.unknown(model)
    first = line.integer()
    return ("element", x, (first, *line.integers()), z)


def read_times(line, model):
    """Read what follows the kind of a times body."""
    x = line.unknown(model)
    y = line.unknown(model)
    return ("times", x, y, line.unknown(model))


READERS = {
    "row": read_row,
    "any": read_any,
    "when": read_when,
    "different": read_different,
    "table": read_table,
    "element": read_element,
    "times": read_times,
}


def read_body(line, model):
    """Read a body from its kind to the end of the line."""
    reader = READERS[line.one_of(list(READERS))]
    body = reader(line, model)
    line.end()
    return body
