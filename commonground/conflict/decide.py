"""Whether some constraints of a model have a common solution, with evidence."""

from commonground.ledger.bounding import contradiction_in
from commonground.ledger.certificate import cut
from commonground.ledger.ledger import Ledger
from commonground.ledger.pen import Pen
from commonground.ledger.standing import Standing
from commonground.model.model import Model
from commonground.workers.branch import Branch


def model_with(model, labels):
    """Return a new model with the same unknowns and bounds, these constraints alone, and the goal of a new model."""
    unknowns, constraints, _ = model.told()
    part = Model(unknowns)
    for label, body in constraints:
        if label in labels:
            part.put(label, body)
    return part


def decide(model, labels):
    """Return ("point", point) with a common solution of these constraints, or ("none", steps), a certificate."""
    ledger = Ledger(model_with(model, labels))
    standing = Standing(ledger)
    # Of all workers this one alone is sure to need few entries if there are few points inside.
    branch = Branch()
    while standing.best() is None and branch.turn(Pen(ledger, standing)):
        pass
    best = standing.best()
    if best is not None:
        return ("point", best[1])
    return ("none", cut(ledger, contradiction_in(ledger)))
