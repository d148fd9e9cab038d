"""The plain bound: what the bounds of the unknowns alone tell about the goal."""

from commonground.errors import TooLarge
from commonground.ledger.bounding import bound_of, contradiction_in
from commonground.ledger.ledger import MOST_ENTRIES


def write_plain_bound(ledger):
    """Write the plain bound if no bound is known, unless it is known that there is no solution."""
    if contradiction_in(ledger) is not None or bound_of(ledger) is not None:
        return
    model = ledger.model
    terms = model.goal_row(0)[1]
    facts = [side_of(model, v, c) for v, c in terms]
    missing = [fact for fact in facts if ledger.find(fact) is None]
    if ledger.many() + len(missing) >= MOST_ENTRIES:
        raise TooLarge()
    for fact in missing:
        ledger.offer((fact, "bound", fact[1][0][0]))
    pairs = tuple((ledger.find(fact), abs(c)) for fact, (_, c) in zip(facts, terms))
    total = sum(abs(c) * fact[2] for fact, (_, c) in zip(facts, terms))
    ledger.offer((("row", terms, total), "sum", pairs))


def side_of(model, v, c):
    """Return the row that states the bound of the unknown v by which c times its value is limited."""
    if c > 0:
        return ("row", ((v, 1),), model.high(v))
    return ("row", ((v, -1),), -model.low(v))
