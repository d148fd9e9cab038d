"""The relaxation: the linear program that a ledger states."""

from commonground.facts.fact import as_row
from commonground.model.literal import rows_of
from commonground.workers.boxes import whole_box


def rows_of_body(body):
    """Return the list of the rows of a row body, and of another body none."""
    if body[0] != "row":
        return []
    _, terms, relation, rhs = body
    return rows_of(terms, relation, rhs)


def rows_stated(ledger):
    """Return the list of the rows of all row bodies and of all awake open entries that count as rows."""
    model = ledger.model
    rows = [row for label in model.labels() for row in rows_of_body(model.body(label))]
    counted = [as_row(ledger.fact(i)) for i in ledger.open_entries()]
    return rows + [row for row in counted if row is not None]


def rows_at_hand(ledger):
    """Return the list of the rows at hand, of those with equal terms the least, ascending by their terms."""
    least = {}
    for _, terms, rhs in rows_stated(ledger):
        least[terms] = min(rhs, least.get(terms, rhs))
    return [("row", terms, least[terms]) for terms in sorted(least)]


def relaxation(ledger):
    """Return the program with the bounds, the rows at hand and the goal of the ledger."""
    model = ledger.model
    lows, highs = whole_box(model)
    rows = tuple((terms, rhs) for _, terms, rhs in rows_at_hand(ledger))
    # The goal row of any value has the terms that are to become as great as possible.
    aim = model.goal_row(0)[1]
    return (lows, highs, rows, aim)
