"""When a ledger with a standing knows the answer."""

from commonground.ledger.bounding import contradiction_in, entry_for


def is_settled(ledger, standing):
    """Return True if there is a contradiction, or an entry by which no value is better than that of the point held."""
    if contradiction_in(ledger) is not None:
        return True
    best = standing.best()
    return best is not None and entry_for(ledger, best[0]) is not None
