"""Explanations: steps that tell why a body fails, by as few of its values as a short look can find."""

from commonground.model.body import body_holds, unknowns_of

MOST_CHOICES = 64


def cause_of(model, label, worths):
    """Return a step with a clause that the body of the constraint states and that fails at these values."""
    body = model.body(label)
    if body[0] == "different":
        x, y = first_equal(unknowns_of(body), worths)
        return (clause_at([x, y], worths), "apart", label)
    return (clause_at(kept_unknowns(model, body, worths), worths), "look", label, ())


def clause_at(unknowns, worths):
    """Return the clause that one of the unknowns has another value than it has here."""
    return ("any", tuple((v, "!=", worths[v]) for v in unknowns))


def first_equal(unknowns, worths):
    """Return the pair x < y of unknowns with equal values that has the least y, and then the least x."""
    seen = {}
    for y in unknowns:
        if worths[y] in seen:
            return (seen[worths[y]], y)
        seen[worths[y]] = y
    return None


def kept_unknowns(model, body, worths):
    """Return the list of the unknowns of the body whose values are enough for it to fail."""
    unknowns = unknowns_of(body)
    choices = [{x: worths[x] for x in unknowns}]
    kept = []
    for v in unknowns:
        within = list(range(model.low(v), model.high(v) + 1))
        wider = []
        if len(choices) * len(within) <= MOST_CHOICES:
            wider = [{**choice, v: a} for choice in choices for a in within]
        if wider and not any(body_holds(body, choice) for choice in wider):
            choices = wider
        else:
            kept.append(v)
    return kept
