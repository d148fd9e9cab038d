"""How the linear workers write a combination of inequalities of the relaxation into the ledger."""

from commonground.exact.simplex import combination, inequality
from commonground.facts.fact import as_row
from commonground.workers.relaxation import rows_of_body


def entries_by_row(ledger):
    """Return a dict from the rows that the awake open entries count as to the lowest such entries."""
    numbers = {}
    for i in ledger.open_entries():
        row = as_row(ledger.fact(i))
        if row is not None and row not in numbers:
            numbers[row] = i
    return numbers


def labels_by_row(model):
    """Return a dict from the rows of the row bodies to the labels of these bodies."""
    return {row: label for label in model.labels() for row in rows_of_body(model.body(label))}


def write_combination(pen, program, weights):
    """Return the number of an entry that states the combination of the inequalities with these weights."""
    lows, highs, rows, _ = program
    numbers = entries_by_row(pen.ledger)
    labels = labels_by_row(pen.ledger.model)
    pairs = []
    for q, m in weights:
        terms, rhs = inequality(lows, highs, rows, q)
        row = ("row", terms, rhs)
        if row in numbers:
            pairs.append((numbers[row], m))
        elif q < len(rows):
            pairs.append((pen.offer((row, "given", labels[row])), m))
        else:
            pairs.append((pen.offer((row, "bound", terms[0][0])), m))
    terms, rhs = combination(lows, highs, rows, weights)
    return pen.offer((("row", terms, rhs), "sum", tuple(pairs)))


def write_divided(pen, program, scale, weights):
    """Return the number of an entry that states the combination divided by the scale, its rhs rounded down."""
    i = write_combination(pen, program, weights)
    _, terms, rhs = pen.ledger.fact(i)
    # With the scale 1 this is the fact of the entry i, and nothing is written.
    row = ("row", tuple((v, c // scale) for v, c in terms), rhs // scale)
    return pen.offer((row, "divide", i, scale))
