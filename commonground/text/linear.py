"""Terms and literals, written and read."""

from commonground.model.body import LINEAR_RELATIONS, RELATIONS
from commonground.text.line import number_named
from commonground.text.words import integer_text, read_integer


def terms_words(model, terms):
    """Return the list of the words of the terms."""
    return [f"{integer_text(c)}*{model.name(v)}" for v, c in terms]


def condition_words(model, terms, relation, rhs):
    """Return the list of the words of a linear condition."""
    return [*terms_words(model, terms), relation, integer_text(rhs)]


def literal_words(model, literal):
    """Return the list of the words of the literal."""
    v, relation, a = literal
    return [model.name(v), relation, integer_text(a)]


def literals_words(model, literals):
    """Return the list of the words of the literals, with "or" between them."""
    words = []
    for literal in literals:
        if words:
            words.append("or")
        words.extend(literal_words(model, literal))
    return words


def term_in(model, word, last):
    """Return the term that the word writes if its unknown is after the last one, otherwise None."""
    factor, _, name = word.partition("*")
    c = read_integer(factor)
    v = number_named(model, name)
    if c is None or c == 0 or v is None or v <= last:
        return None
    return (v, c)


def read_terms(line, model):
    """Read terms."""
    terms = []
    last = -1
    while "*" in line.ahead():
        term = line.take(term_in(model, line.ahead(), last))
        terms.append(term)
        last = term[0]
    return tuple(terms)


def read_condition(line, model):
    """Read a linear condition, as a tuple of its terms, its relation and its rhs."""
    terms = read_terms(line, model)
    relation = line.one_of(LINEAR_RELATIONS)
    return (terms, relation, line.integer())


def read_literal(line, model):
    """Read a literal."""
    v = line.unknown(model)
    relation = line.one_of(RELATIONS)
    return (v, relation, line.integer())


def read_literals(line, model):
    """Read one literal or more, with "or" between them."""
    literals = [read_literal(line, model)]
    while line.ahead() == "or":
        line.take("or")
        literals.append(read_literal(line, model))
    return tuple(literals)
