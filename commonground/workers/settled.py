"""When a ledger with a standing knows the answer."""

from commonground.facts.fact import negation
from commonground.ledger.bounding import contradiction_in, entry_for


def is_settled(ledger, standing):
    """Return True if there is a contradiction, or an entry by which no value is better than that of the point held."""
    if contradiction_in(ledger) is not None:
        return True
    best = standing.best()
    return best is not None and entry_for(ledger, best[0]) is not None


def write_goal_row(pen, closed, improving):
    """Write that nothing is better than the point held, as the supposition improving led to the entry closed."""
    row = negation(pen.ledger.fact(improving))
    t = pen.suppose(row)
    pen.offer((row, "cases", closed, t, improving, t))
