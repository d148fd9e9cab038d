"""Models, written and read."""

from commonground.errors import BadModel, BadText, TooLarge
from commonground.model.body import is_label
from commonground.model.model import GREATEST_BOUND, LEAST_BOUND, MOST_UNKNOWNS, Model
from commonground.text.bodies import body_words, read_body
from commonground.text.line import Line
from commonground.text.linear import read_terms, terms_words
from commonground.text.words import integer_text, read_integer


def body_text(model, body):
    """Return the words of the body, from the kind on, as one string."""
    return " ".join(body_words(model, body))


def model_text(model):
    """Return the text of the model."""
    unknowns, constraints, goal = model.told()
    lines = [f"unknown {name} {integer_text(low)} {integer_text(high)}" for name, low, high in unknowns]
    lines.extend([f"body {label} {body_text(model, body)}" for label, body in constraints])
    sense, terms, constant = goal
    lines.append(" ".join(["goal", sense, *terms_words(model, terms), "plus", integer_text(constant)]))
    return "\n".join(lines)


def read_model(text):
    """Return the model that the text writes."""
    lines = [Line(number, words) for number, words in enumerate(text.split("\n"), 1)]
    unknowns = read_unknowns(lines)
    model = Model(unknowns)
    for line in lines[len(unknowns):]:
        if line.one_of(("body", "goal")) == "goal":
            read_goal(line, model)
            if line.line_number < len(lines):
                raise BadText(line.line_number + 1, 0)
            return model
        read_constraint(line, model)
    raise BadText(len(lines) + 1, 0)


def read_unknowns(lines):
    """Return the list of the unknowns in the lines at the beginning, of which there must be one."""
    unknowns = []
    names = {}
    for line in lines:
        if unknowns and line.ahead() != "unknown":
            return unknowns
        unknown = read_unknown(line, names)
        if len(unknowns) == MOST_UNKNOWNS:
            raise BadText(line.line_number, 0)
        unknowns.append(unknown)
        names[unknown[0]] = True
    return unknowns


def read_unknown(line, names):
    """Read an unknown, which has none of the names."""
    line.one_of(("unknown",))
    name = line.take(free_label(line.ahead(), names))
    low = line.take(integer_between(line.ahead(), LEAST_BOUND, GREATEST_BOUND))
    high = line.take(integer_between(line.ahead(), low, GREATEST_BOUND))
    line.end()
    return (name, low, high)


def free_label(word, taken):
    """Return the word if it is a label and not taken, otherwise None."""
    if not is_label(word) or word in taken:
        return None
    return word


def integer_between(word, low, high):
    """Return the integer that the word writes if it is from low to high, otherwise None."""
    n = read_integer(word)
    if n is None or not low <= n <= high:
        return None
    return n


def read_constraint(line, model):
    """Read a constraint behind the word "body" and add it to the model."""
    label = line.take(free_label(line.ahead(), model.labels()))
    body = read_body(line, model)
    try:
        model.put(label, body)
    except BadModel:
        raise BadText(line.line_number, 2) from None
    except TooLarge:
        raise BadText(line.line_number, 0) from None


def read_goal(line, model):
    """Read a goal behind the word "goal" and set it as that of the model."""
    sense = line.one_of(("max", "min"))
    terms = read_terms(line, model)
    line.one_of(("plus",))
    constant = line.integer()
    line.end()
    try:
        model.aim((sense, terms, constant))
    except BadModel:
        raise BadText(line.line_number, 1) from None
