"""The choices of values that a look at a body goes through, and what they cost."""

from commonground.facts.domains import Domains
from commonground.facts.fact import as_literal
from commonground.model.body import unknowns_of
from commonground.model.literal import negated


def remaining_for(model, body, fact, hints):
    """Return the domains of the unknowns of the body where the fact fails and the hints hold.

    Only literals remove values, so the fact need not fail and the hints need not hold at all that is left.
    """
    domains = Domains(model, unknowns_of(body))
    if fact[0] == "any":
        for literal in fact[1]:
            domains.keep(negated(literal))
    for hint in hints:
        literal = as_literal(hint)
        if literal is not None:
            domains.keep(literal)
    return domains


def cost_of(body, domains):
    """Return the cost of a look at the body, none of whose unknowns is without a value."""
    kind = body[0]
    if kind in ("table", "element"):
        return 0
    unknowns = unknowns_of(body)
    if kind == "times":
        unknowns = sorted({body[1], body[2]})
    cost = 1
    for v in unknowns:
        cost = cost * domains.size(v)
    return cost


def look_cost(model, body, fact):
    """Return the cost of a look at the body without hints."""
    domains = remaining_for(model, body, fact, [])
    if not domains.all_left():
        return 0
    return cost_of(body, domains)


def choices_of(body, domains):
    """Return the list of the choices, each a dict from the unknowns of the body to values."""
    kind = body[0]
    if kind == "table":
        return table_choices(body, domains)
    if kind == "element":
        return element_choices(body, domains)
    if kind == "times":
        return times_choices(body, domains)
    return all_choices(unknowns_of(body), domains)


def table_choices(body, domains):
    """Return the rows whose entries are remaining values."""
    _, unknowns, rows = body
    choices = [dict(zip(unknowns, row)) for row in rows]
    return [choice for choice in choices if all([domains.contains(v, choice[v]) for v in choice])]


def element_choices(body, domains):
    """Return the remaining indexes with their entries."""
    _, x, entries, z = body
    indexes = [a for a in domains.left(x) if 0 <= a < len(entries)]
    return with_result([({x: a}, entries[a]) for a in indexes], z, domains)


def times_choices(body, domains):
    """Return the remaining factors with their products."""
    _, x, y, z = body
    if x == y:
        return with_result([({x: a}, a * a) for a in domains.left(x)], z, domains)
    factors = [(a, b) for a in domains.left(x) for b in domains.left(y)]
    return with_result([({x: a, y: b}, a * b) for a, b in factors], z, domains)


def with_result(pairs, z, domains):
    """Return the choices to which the result beside them can be added as the value of z."""
    choices = []
    for choice, result in pairs:
        if domains.contains(z, result) and choice.get(z, result) == result:
            choices.append({**choice, z: result})
    return choices


def all_choices(unknowns, domains):
    """Return all choices of remaining values."""
    rows = [()]
    for v in unknowns:
        worths = domains.left(v)
        rows = [row + (a,) for row in rows for a in worths]
    return [dict(zip(unknowns, row)) for row in rows]
