"""The search of the branching worker: a tree of boxes, divided by suppositions and closed by contradictions."""

from commonground.facts.fact import negation
from commonground.model.body import unknowns_of
from commonground.workers.boxes import rest_after
from commonground.workers.closing import all_sides, failing_fact, look_excludes, sides_against
from commonground.workers.reach import fails_in
from commonground.workers.settled import write_goal_row

NEVER = ("any", ())


def first_half(model, box):
    """Return the row of the half that is searched first; the box has several points."""
    lows, highs = box
    _, v = min([(highs[x] - lows[x], x) for x in range(model.many()) if lows[x] < highs[x]])
    below = ("row", ((v, 1),), (lows[v] + highs[v]) // 2)
    # The terms of a goal row are those that are to become great.
    if any(c > 0 for x, c in model.goal_row(0)[1] if x == v):
        return negation(below)
    return below


class Search:
    """Where a search is: the suppositions that lead to the box in hand, and what is closed already.

    It does not keep the pen, the ledger or the standing; they are passed in each turn.
    """

    def __init__(self):
        self.improving = None
        self.path = []
        # For each supposition in the path: None if it leads to a first half, and otherwise the supposition that led
        # to the first half, with the entry by which that half was closed.
        self.halves = []

    def begin(self, pen):
        """Suppose that there is something better than the point held, if there is one."""
        best = pen.standing.best()
        if best is not None:
            self.improving = pen.suppose(pen.ledger.model.improving_row(best[0]))

    def rests_on(self, pen):
        """Return all on which it depends whether the search may go on."""
        ledger = pen.ledger
        numbers = self.path + [k for half in self.halves if half is not None for k in half]
        if self.improving is not None:
            numbers.append(self.improving)
        entries = [(ledger.fact(k), ledger.under(k), ledger.awake(k)) for k in numbers if k < ledger.many()]
        return (ledger.edits, ledger.model.told(), pen.standing.best(), numbers, entries)

    def go_on(self, pen):
        """Close the box in hand, or divide it, or show its only point; return True if a point was shown."""
        ledger = pen.ledger
        box = rest_after(ledger.model, [ledger.fact(s) for s in self.path])
        closed = self.close(pen, box)
        if closed is not None:
            self.leave(pen, closed)
        elif box[0] == box[1]:
            return pen.standing.show(box[0])
        else:
            self.enter(pen.suppose(first_half(ledger.model, box)), None)
        return False

    def enter(self, s, half):
        """Go to the half of the box in hand to which the supposition s leads."""
        self.path.append(s)
        self.halves.append(half)

    def close(self, pen, box):
        """Return an entry that closes the box in hand, or None."""
        model = pen.ledger.model
        if self.improving is not None and fails_in(box, pen.ledger.fact(self.improving)):
            return self.contradict(pen, self.improving)
        for label in model.labels():
            body = model.body(label)
            fact = failing_fact(body, box)
            if fact is not None:
                return self.contradict(pen, pen.offer((fact, "given", label)))
            if look_excludes(model, body, box):
                return pen.offer((NEVER, "look", label, self.sharpest(pen, all_sides(unknowns_of(body)))))
        return None

    def contradict(self, pen, i):
        """Return an entry that shows that the fact of the entry i fails in all of the box in hand."""
        hints = self.sharpest(pen, sides_against(pen.ledger.fact(i)))
        return pen.offer((NEVER, "unit", (*hints, i)))

    def sharpest(self, pen, sides):
        """Return the suppositions in the path that bound the box in hand on these sides."""
        # Of several suppositions about one side, the last one is the sharpest.
        numbers = {pen.ledger.fact(s)[1]: s for s in self.path}
        return tuple(numbers[side] for side in sides if side in numbers)

    def leave(self, pen, closed):
        """Go to the next box that is not closed, the box in hand being closed by this entry."""
        while self.path:
            s = self.path.pop()
            half = self.halves.pop()
            # What is not under the supposition closes the whole box that was divided.
            if s in pen.ledger.under(closed):
                if half is None:
                    self.enter(pen.suppose(negation(pen.ledger.fact(s))), (s, closed))
                    return
                first, before = half
                closed = pen.offer((NEVER, "cases", before, closed, first, s))
        self.finish(pen, closed)

    def finish(self, pen, closed):
        """Write what follows when the whole box is closed by this entry."""
        if not pen.ledger.is_open(closed):
            write_goal_row(pen, closed, self.improving)
