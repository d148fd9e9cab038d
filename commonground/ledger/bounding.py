"""What the single entries of a ledger tell about the goal."""

from commonground.facts.fact import as_literal, as_row, implies, is_contradiction


def contradiction_in(ledger):
    """Return the lowest awake open entry that is a contradiction, or None."""
    for i in ledger.open_entries():
        if is_contradiction(ledger.fact(i)):
            return i
    return None


def entry_for(ledger, worth):
    """Return the lowest awake open entry that implies the goal row of the value worth, or None."""
    row = ledger.model.goal_row(worth)
    for i in ledger.open_entries():
        if implies(ledger.fact(i), row):
            return i
    return None


def bound_of(ledger):
    """Return the best value that the model may still have as far as single entries tell, or None."""
    sense, _, constant = ledger.model.goal()
    terms = ledger.model.goal_row(0)[1]
    sides = []
    for i in ledger.open_entries():
        sides += sides_implied(ledger.fact(i), terms)
    if not sides:
        return None
    if sense == "max":
        return constant + min(sides)
    return constant - min(sides)


def sides_implied(fact, terms):
    """Return numbers the least of which is the least rhs for which the fact implies the row with these terms.

    There is none if the fact implies no such row, and none of a contradiction, which implies all of them.
    """
    if is_contradiction(fact):
        return []
    sides = []
    row = as_row(fact)
    if row is not None and row[1] == terms:
        sides.append(row[2])
    literal = as_literal(fact)
    if literal is not None and len(terms) == 1:
        sides += side_of_literal(literal, terms[0])
    return sides


def side_of_literal(literal, term):
    """Return the least rhs for which the literal implies the row with the one term, in a list, or no number."""
    v, c = term
    reaching = ("=", "<=") if c > 0 else ("=", ">=")
    if literal[0] == v and literal[1] in reaching:
        return [c * literal[2]]
    return []
