"""Which constraints show that a model has no solution in a box."""

from commonground.facts.choices import look_cost
from commonground.facts.rules import GREATEST_COST
from commonground.model.body import unknowns_of
from commonground.workers.boxes import clause_against, has_support
from commonground.workers.reach import fails_in
from commonground.workers.relaxation import rows_of_body


def facts_given(body):
    """Return the list of the facts that the rule given draws from the body."""
    if body[0] == "any":
        return [body]
    return rows_of_body(body)


def failing_fact(body, box):
    """Return a fact that the rule given draws from the body and that fails in all of the box, or None."""
    for fact in facts_given(body):
        if fails_in(box, fact):
            return fact
    return None


def look_excludes(model, body, box):
    """Tell whether a look at the body shows that it holds nowhere in the box."""
    # The values that a look goes through where the clause against the box fails are those of the box.
    clause = clause_against(model, box, unknowns_of(body))
    return look_cost(model, body, clause) <= GREATEST_COST and not has_support(body, box)


def sides_against(fact):
    """Return the list of the terms of those bounds that can show that the fact fails in all of a box."""
    if fact[0] == "row":
        # The least sum takes the lower bounds for positive c, and the upper ones for negative c.
        return [((v, -1 if c > 0 else 1),) for v, c in fact[1]]
    sides = []
    for v, relation, _ in fact[1]:
        if relation != ">=":
            sides.append(((v, -1),))
        if relation != "<=":
            sides.append(((v, 1),))
    return sides


def all_sides(unknowns):
    """Return the list of the terms of all bounds of the unknowns."""
    return [((v, c),) for v in unknowns for c in (-1, 1)]
