"""Facts and steps, written and read."""

from commonground.facts.parts import LABELLED, label_in
from commonground.facts.rules import RULES
from commonground.text.line import Line
from commonground.text.linear import condition_words, literals_words, read_literals, read_terms
from commonground.text.words import integer_text, read_integer

# How many integers stand behind those rules for which this is always the same.
INTEGERS = {"given": 0, "suppose": 0, "divide": 2, "apart": 0, "then": 1, "cases": 4, "absurd": 1, "weaken": 1}


def fact_words(model, fact):
    """Return the list of the words of the fact."""
    if fact[0] == "row":
        return ["row", *condition_words(model, fact[1], "<=", fact[2])]
    if fact[1] == ():
        return ["never"]
    return ["any", *literals_words(model, fact[1])]


def rest_words(model, step):
    """Return the list of the words behind the rule of the step."""
    rule = step[1]
    if rule == "bound":
        return [model.name(step[2])]
    if rule == "sum":
        return [f"{integer_text(i)}*{integer_text(m)}" for i, m in step[2]]
    if rule == "unit":
        return [integer_text(i) for i in step[2]]
    if rule == "look":
        return [step[2], *[integer_text(i) for i in step[3]]]
    if label_in(step) is not None:
        return [step[2], *[integer_text(i) for i in step[3:]]]
    return [integer_text(i) for i in step[2:]]


def step_words(model, step):
    """Return the list of the words of the step."""
    return [*fact_words(model, step[0]), "by", step[1], *rest_words(model, step)]


def fact_text(model, fact):
    """Return the words of the fact as one string."""
    return " ".join(fact_words(model, fact))


def step_text(model, step):
    """Return the words of the step as one string."""
    return " ".join(step_words(model, step))


def fact_on(line, model):
    """Read a fact."""
    kind = line.one_of(("row", "any", "never"))
    if kind == "row":
        terms = read_terms(line, model)
        line.one_of(("<=",))
        return ("row", terms, line.integer())
    if kind == "any":
        return ("any", read_literals(line, model))
    return ("any", ())


def pair_in(word):
    """Return the pair of integers that the word writes with "*" between them, or None."""
    first, _, second = word.partition("*")
    i = read_integer(first)
    m = read_integer(second)
    if i is None or m is None:
        return None
    return (i, m)


def read_pairs(line):
    """Read pairs up to the end of the line, perhaps none."""
    pairs = []
    while not line.ended():
        pairs.append(line.take(pair_in(line.ahead())))
    return tuple(pairs)


def rest_on(line, model, rule):
    """Read what follows this rule, as a tuple."""
    if rule == "bound":
        return (line.unknown(model),)
    if rule == "sum":
        return (read_pairs(line),)
    if rule == "unit":
        return (line.integers(),)
    label = [line.label()] if rule in LABELLED else []
    if rule == "look":
        return (*label, line.integers())
    numbers = [line.integer() for _ in range(INTEGERS[rule])]
    return (*label, *numbers)


def step_on(line, model):
    """Read a step up to the end of the line."""
    fact = fact_on(line, model)
    line.one_of(("by",))
    rule = line.one_of(list(RULES))
    rest = rest_on(line, model, rule)
    line.end()
    return (fact, rule, *rest)


def read_fact(model, text):
    """Return the fact that the line writes."""
    line = Line(1, text)
    fact = fact_on(line, model)
    line.end()
    return fact


def read_step(model, text):
    """Return the step that the line writes."""
    return step_on(Line(1, text), model)
