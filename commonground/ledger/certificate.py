"""Steps of certificates: trimmed, cut out of a ledger, composed, and carried to another model."""

from commonground.errors import Refused
from commonground.facts.judge import refers_to, unders
from commonground.facts.parts import label_in, numbers_behind, with_numbers
from commonground.model.body import unknowns_of


def trim(steps):
    """Return the last step and all steps on which it rests, renumbered."""
    if not steps:
        return ()
    kept = numbers_behind(steps, len(steps) - 1)
    places = {number: place for place, number in enumerate(kept)}
    # A number of no step stays: as there are not more steps than before, it is still that of none.
    return tuple(with_numbers(steps[k], [places.get(i, i) for i in refers_to(steps[k])]) for k in kept)


def cut(ledger, i):
    """Return the steps on which the awake entry i of the ledger rests, itself being the last one."""
    if not ledger.awake(i):
        raise Refused()
    return trim(tuple(ledger)[:i + 1])


def compose(helper_steps, label, steps):
    """Return steps that need no constraint with this label, as the helper steps show what it states."""
    if not helper_steps or unders(helper_steps)[-1] != ():
        raise Refused()
    many = len(helper_steps)
    composed = list(helper_steps)
    for step in steps:
        composed.append(composed_step(step, label, many))
    return tuple(composed)


def composed_step(step, label, many):
    """Return the step as it stands behind so many helper steps."""
    if label_in(step) != label:
        return with_numbers(step, [i + many for i in refers_to(step)])
    if step[1] != "given":
        raise Refused()
    return (step[0], "weaken", many - 1)


def carry(steps, model, other):
    """Return the steps with the numbers that the unknowns of the model have in the other model."""
    return tuple(carried_step(step, model, other) for step in steps)


def carried_step(step, model, other):
    """Return the step with the numbers of the other model."""
    fact = step[0]
    numbers = numbers_in_other([part[0] for part in fact[1]], model, other)
    if fact[0] == "row":
        carried = ("row", terms_with(fact[1], numbers), fact[2])
    else:
        carried = ("any", literals_with(fact[1], numbers))
    if step[1] == "bound":
        return (carried, "bound", other.number(model.name(step[2])))
    return (carried, *step[1:])


def numbers_in_other(unknowns, model, other):
    """Return a dict from the unknowns of the model to the numbers of those with the same names."""
    return {v: other.number(model.name(v)) for v in unknowns}


def terms_with(terms, numbers):
    """Return the terms with these numbers of unknowns, in ascending order."""
    return tuple(sorted([(numbers[v], c) for v, c in terms]))


def literal_with(literal, numbers):
    """Return the literal with this number of its unknown."""
    v, relation, a = literal
    return (numbers[v], relation, a)


def literals_with(literals, numbers):
    """Return the literals, in their order, with these numbers of unknowns."""
    return tuple(literal_with(literal, numbers) for literal in literals)


def carry_body(body, model, other):
    """Return the body with the numbers that its unknowns have in the other model."""
    numbers = numbers_in_other(unknowns_of(body), model, other)
    kind = body[0]
    if kind == "row":
        return ("row", terms_with(body[1], numbers), *body[2:])
    if kind == "any":
        return ("any", literals_with(body[1], numbers))
    if kind == "when":
        return ("when", literal_with(body[1], numbers), terms_with(body[2], numbers), *body[3:])
    if kind in ("different", "table"):
        return (kind, tuple(numbers[v] for v in body[1]), *body[2:])
    if kind == "element":
        return ("element", numbers[body[1]], body[2], numbers[body[3]])
    return (kind, *[numbers[v] for v in body[1:]])
