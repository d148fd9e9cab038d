"""The learning worker, who writes a clause about each conflict to which a descent leads."""

from commonground.workers.closing import facts_given
from commonground.workers.descent import Descent
from commonground.workers.settled import is_settled, write_goal_row


class Learn:
    """A worker that remembers nothing from one turn to the next."""

    def turn(self, pen):
        """Make one descent, and learn a clause or show a better point; return False if the ledger is settled."""
        ledger = pen.ledger
        if is_settled(ledger, pen.standing):
            return False
        state_given(pen)
        improving = suppose_improving(pen)
        numbers = ledger.open_entries()
        if improving is not None:
            numbers += ledger.entries_under((improving,))
        descent = Descent(pen, numbers)
        if descent.go_down():
            pen.standing.show(descent.reached())
        else:
            learn_from(pen, descent, improving)
        return True


def state_given(pen):
    """Write what the row and any bodies of the model state."""
    model = pen.ledger.model
    for label in model.labels():
        for fact in facts_given(model.body(label)):
            pen.offer((fact, "given", label))


def suppose_improving(pen):
    """Return the supposition that there is something better than the point held, or None if none is held."""
    best = pen.standing.best()
    if best is None:
        return None
    return pen.suppose(pen.ledger.model.improving_row(best[0]))


def learn_from(pen, descent, improving):
    """Write the clause that the conflict of the descent teaches, and what follows if it has no literals."""
    literals, hints = descent.causes()
    i = pen.offer((("any", literals), "unit", hints))
    if not literals and not pen.ledger.is_open(i):
        write_goal_row(pen, i, improving)
