"""One descent of the learning worker: unknowns are fixed until there is a conflict, or until each one has one value."""

from commonground.facts.fact import unknowns_in
from commonground.model.body import body_holds, unknowns_of
from commonground.workers.cause import cause_of
from commonground.workers.remaining import Remaining
from commonground.workers.trail import Trail

EXPLAINED = ("when", "different", "table", "element", "times")


class Descent:
    """The remaining values, and which entries and bodies must be looked at again as they become fewer."""

    def __init__(self, pen, numbers):
        self.pen = pen
        self.model = pen.ledger.model
        self.unknowns = list(range(self.model.many()))
        self.remaining = Remaining(self.model)
        self.trail = Trail(self.remaining.copied(self.unknowns))
        self.fixed = {}
        # The entry that is a conflict, with its fact and what remained then.
        self.conflict = None
        self.waiting = {i: True for i in numbers}
        # For each unknown: the entries that may remove something when it loses values, those that may when it has one
        # value left, and the bodies that may fail.
        self.watching = [{} for _ in self.unknowns]
        self.watching_last = [{} for _ in self.unknowns]
        self.explained = [{} for _ in self.unknowns]
        self.unsure = {}
        for label in self.model.labels():
            self.use(label, self.model.body(label))

    def use(self, label, body):
        """Look at the body of the constraint whenever one of its unknowns loses values, if it may be explained."""
        if body[0] in EXPLAINED:
            self.unsure[label] = True
            for v in unknowns_of(body):
                self.explained[v][label] = True

    def go_down(self):
        """Go on until there is a conflict, and return False, or until each unknown has one value, and return True."""
        while self.apply_waiting():
            if not self.explain():
                if self.remaining.single():
                    return True
                self.fix_next()
        return False

    def reached(self):
        """Return the point whose values remain."""
        return tuple(self.remaining.left(v)[0] for v in self.unknowns)

    def causes(self):
        """Return literals "!=" of the fixed unknowns on which the conflict rests, and the entries in their order."""
        number, fact, before = self.conflict
        unknowns, numbers = self.trail.causes(number, fact, before)
        return (tuple((v, "!=", self.fixed[v]) for v in unknowns), tuple(numbers))

    def apply_waiting(self):
        """Apply the entries that wait until nothing more is removed; return False if there is a conflict."""
        while self.waiting:
            for i in list(self.waiting):
                del self.waiting[i]
                if not self.apply(i):
                    return False
        return True

    def apply(self, i):
        """Apply the entry i; return False if it is a conflict."""
        fact = self.pen.ledger.fact(i)
        live = self.remaining.live_pair(fact)
        if live:
            self.watch_literals(i, live)
            return True
        before = self.remaining.copied(unknowns_in(fact))
        lost = self.remaining.apply(fact)
        if lost is None:
            self.conflict = (i, fact, before)
            return False
        self.note(i, fact, before, lost)
        if fact[0] == "row":
            for v, _ in fact[1]:
                self.watching[v][i] = True
        return True

    def watch_literals(self, i, literals):
        """Apply the entry i, a clause, again when one of the two literals may be live no more; before, it is idle."""
        for v, relation, _ in literals:
            if relation == "!=":
                self.watching_last[v][i] = True
            else:
                self.watching[v][i] = True

    def note(self, number, fact, before, lost):
        """Note that these unknowns lost values, by the fact of the entry, or as one of them was fixed."""
        if lost:
            after = self.remaining.copied(lost)
            self.trail.note(number, fact, before, {v: before[v] ^ after[v] for v in lost})
        for v in lost:
            self.unsure.update(self.explained[v])
            self.waiting.update(self.watching[v])
            self.watching[v] = {}
            if self.remaining.is_single(v):
                self.waiting.update(self.watching_last[v])
                self.watching_last[v] = {}

    def explain(self):
        """Write an explanation why a body fails, which then waits; return False if none is to be written."""
        for label in list(self.unsure):
            worths = self.failing_values(self.model.body(label))
            if worths is not None:
                self.waiting[self.pen.offer(cause_of(self.model, label, worths))] = True
                return True
            del self.unsure[label]
        return False

    def failing_values(self, body):
        """Return remaining values at which the body fails, if at most one of its unknowns has several, or None."""
        unknowns = unknowns_of(body)
        several = [v for v in unknowns if not self.remaining.is_single(v)]
        if len(several) > 1:
            return None
        worths = [0] * len(self.unknowns)
        for v in unknowns:
            worths[v] = self.remaining.least(v)
        v = several[0] if several else unknowns[0]
        for a in self.remaining.left(v):
            worths[v] = a
            if not body_holds(body, worths):
                return worths
        return None

    def fix_next(self):
        """Fix an unknown that has several values to the one that is best for the goal."""
        _, v = min([(self.remaining.size(v), v) for v in self.unknowns if not self.remaining.is_single(v)])
        worths = self.remaining.left(v)
        # The terms of a goal row are those that are to become great.
        rising = [x for x, c in self.model.goal_row(0)[1] if c > 0]
        a = worths[-1] if v in rising else worths[0]
        before = self.remaining.copied([v])
        self.remaining.fix(v, a)
        self.fixed[v] = a
        self.note(None, None, before, [v])
