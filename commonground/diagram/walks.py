"""Walks through the values of the unknowns of one body: a state before the first value and after each one.

A state is None if the body cannot hold any more. The bounds are those of the model when the walk was made.
"""

from commonground.model.body import body_holds, unknowns_of
from commonground.model.literal import literal_holds, relation_holds
from commonground.workers.boxes import whole_box
from commonground.workers.reach import may_hold
from commonground.workers.supports import as_rows, lies_between

# The body holds whatever follows.
YES = "yes"
# Nothing is decided yet.
OPEN = "open"
# The linear condition of a when body cannot hold any more.
NO = "no"


class LinearWalk:
    """A linear condition. A state is the sum so far, or YES."""

    def __init__(self, model, terms, relation, rhs):
        self.relation = relation
        self.rhs = rhs
        self.coefs = dict(terms)
        # The least and the greatest sum of the terms behind each unknown, -1 standing for the place before all of them.
        self.behind = {}
        least = greatest = 0
        for v, c in reversed(terms):
            self.behind[v] = (least, greatest)
            least = least + min(c * model.low(v), c * model.high(v))
            greatest = greatest + max(c * model.low(v), c * model.high(v))
        self.behind[-1] = (least, greatest)

    def start(self):
        """Return the first state."""
        return self.judged(0, -1)

    def after(self, state, v, a):
        """Return the state after the unknown v got the value a."""
        if state == YES or v not in self.coefs:
            return state
        return self.judged(state + self.coefs[v] * a, v)

    def judged(self, total, v):
        """Return the state with this sum behind the unknown v."""
        least, greatest = self.behind[v]
        low = total + least
        high = total + greatest
        at_ends = [relation_holds(self.relation, end, self.rhs) for end in (low, high)]
        if all(at_ends):
            return YES
        if any(at_ends) or (self.relation == "=" and low < self.rhs < high):
            return total
        return None


class AnyWalk:
    """An any body. A state is OPEN or YES."""

    def __init__(self, model, literals):
        box = whole_box(model)
        self.possible = [literal for literal in literals if may_hold(box, literal)]
        self.last = max([literal[0] for literal in self.possible], default=-1)

    def start(self):
        """Return the first state."""
        return OPEN if self.possible else None

    def after(self, state, v, a):
        """Return the state after the unknown v got the value a."""
        if state == YES or any(literal[0] == v and literal_holds(literal, a) for literal in self.possible):
            return YES
        return OPEN if v < self.last else None


class WhenWalk:
    """A when body. A state is YES, or a pair: OPEN, or YES if the literal holds, and the state of the condition."""

    def __init__(self, model, literal, terms, relation, rhs):
        self.literal = literal
        self.linear = LinearWalk(model, terms, relation, rhs)

    def start(self):
        """Return the first state."""
        return self.joined(OPEN, self.linear.start())

    def after(self, state, v, a):
        """Return the state after the unknown v got the value a."""
        if state == YES:
            return YES
        known, told = state
        if v == self.literal[0]:
            if not literal_holds(self.literal, a):
                return YES
            known = YES
        if told != NO:
            told = self.linear.after(told, v, a)
        return self.joined(known, told)

    def joined(self, known, told):
        """Return the state in which this is known of the literal and told of the condition."""
        if told == YES:
            return YES
        if told is None:
            told = NO
        return None if (known, told) == (YES, NO) else (known, told)


class DifferentWalk:
    """A different body. A state has the values taken so far that somebody behind may want, ascending."""

    def __init__(self, model, unknowns):
        self.ends = {v: (model.low(v), model.high(v)) for v in unknowns}

    def start(self):
        """Return the first state."""
        return ()

    def after(self, state, v, a):
        """Return the state after the unknown v got the value a."""
        if v not in self.ends:
            return state
        if a in state:
            return None
        behind = [self.ends[x] for x in self.ends if x > v]
        return tuple(b for b in sorted([*state, a]) if any(low <= b <= high for low, high in behind))


class TableWalk:
    """A table or element body. A state has what is left of the rows that begin with the values so far, ascending."""

    def __init__(self, model, unknowns, rows):
        self.unknowns = sorted(unknowns)
        ends = [(model.low(v), model.high(v)) for v in unknowns]
        places = [unknowns.index(v) for v in self.unknowns]
        within = [row for row in rows if lies_between(row, ends)]
        self.rows = tuple(sorted({tuple(row[place] for place in places) for row in within}))

    def start(self):
        """Return the first state."""
        return self.rows if self.rows else None

    def after(self, state, v, a):
        """Return the state after the unknown v got the value a."""
        if v not in self.unknowns:
            return state
        left = tuple(row[1:] for row in state if row[0] == a)
        return left if left else None


class TimesWalk:
    """A times body. A state has the values so far, or those left to the last unknown, or is YES if all are left."""

    def __init__(self, model, body):
        self.times = body
        self.unknowns = unknowns_of(body)
        self.last = self.unknowns[-1]
        self.within = list(range(model.low(self.last), model.high(self.last) + 1))

    def start(self):
        """Return the first state."""
        return self.known(())

    def after(self, state, v, a):
        """Return the state after the unknown v got the value a."""
        if state == YES or v not in self.unknowns:
            return state
        if v == self.last:
            return YES if a in state else None
        return self.known((*state, a))

    def known(self, worths):
        """Return the state in which the first unknowns have these values."""
        if len(worths) < len(self.unknowns) - 1:
            return worths
        at = dict(zip(self.unknowns, worths))
        left = tuple(a for a in self.within if body_holds(self.times, {**at, self.last: a}))
        if len(left) == len(self.within):
            return YES
        return left if left else None


def walk_of(model, body):
    """Return the walk of the body."""
    kind = body[0]
    if kind == "row":
        _, terms, relation, rhs = body
        return LinearWalk(model, terms, relation, rhs)
    if kind == "any":
        return AnyWalk(model, body[1])
    if kind == "when":
        _, literal, terms, relation, rhs = body
        return WhenWalk(model, literal, terms, relation, rhs)
    if kind == "different":
        return DifferentWalk(model, body[1])
    if kind == "times":
        return TimesWalk(model, body)
    unknowns, rows = as_rows(body)
    return TableWalk(model, unknowns, rows)
