"""One turn of the narrowing worker: what each entry and each body asks of the box of the ledger is written."""

from commonground.facts.fact import as_literal, is_contradiction
from commonground.model.body import unknowns_of
from commonground.model.literal import negated, rows_of
from commonground.workers.bounds import Bounds
from commonground.workers.closing import sides_against
from commonground.workers.narrowing import NEVER, bound_row, fact_cuts, facts_asked, is_bound
from commonground.workers.reach import fails_in


class Sweep:
    """The box of a ledger while it is narrowed in one turn.

    What goes on with the next entry or body returns False if there is an open contradiction instead.
    """

    def __init__(self, pen):
        self.pen = pen
        self.ledger = pen.ledger
        self.bounds = Bounds(pen.ledger.model)

    def read_bounds(self):
        """Narrow the bounds to the box of the ledger."""
        for i in self.ledger.open_entries():
            fact = self.ledger.fact(i)
            if is_bound(fact) and not self.follow(fact, i):
                return False
        return True

    def follow_entries(self):
        """Write the bounds for which the entries ask."""
        for i in self.ledger.open_entries():
            fact = self.ledger.fact(i)
            if not is_bound(fact) and not self.follow(fact, i):
                return False
        return True

    def follow_bodies(self):
        """Write the bounds for which the bodies ask."""
        model = self.ledger.model
        for label in model.labels():
            body = model.body(label)
            for fact in facts_asked(self.bounds.box(), body):
                # Only what narrows the box is stated, so that each turn that writes also narrows.
                if fact_cuts(self.bounds.box(), fact) != [] and not self.follow(fact, self.state(label, body, fact)):
                    return False
        return True

    def follow(self, fact, i):
        """Write the bounds for which the fact of the open entry i asks."""
        if is_contradiction(fact):
            return False
        if is_bound(fact):
            return self.take(as_literal(fact), i)
        cuts = fact_cuts(self.bounds.box(), fact)
        if cuts is None:
            hints = self.bounds.hints(sides_against(fact))
            return self.contradict((*hints, i))
        for cut in cuts:
            hints = self.bounds.hints_against(fact, cut)
            if not self.take(cut, self.pen.offer((bound_row(cut), "unit", (*hints, i)))):
                return False
        return True

    def take(self, literal, i):
        """Narrow the bounds by the literal, which entry i states."""
        if self.bounds.take(literal, i):
            return True
        return self.contradict(self.bounds.hints_about([literal[0]]))

    def contradict(self, hints):
        """Write a contradiction, to which the facts of the hints lead one after the other."""
        self.pen.offer((NEVER, "unit", hints))
        return False

    def state(self, label, body, fact):
        """Return an open entry with the fact, for which the body asks."""
        kind = body[0]
        if kind in ("row", "any"):
            return self.pen.offer((fact, "given", label))
        if kind == "different":
            return self.pen.offer((fact, "apart", label))
        if kind == "when":
            return self.state_when(label, body, fact)
        return self.pen.offer((fact, "look", label, self.bounds.hints_about(unknowns_of(body))))

    def state_when(self, label, body, fact):
        """Return an open entry with the fact, for which the when body asks."""
        literal = body[1]
        if fact[0] == "row":
            return self.pen.offer((fact, "then", label, self.state_sure(literal)))
        s = self.pen.suppose(("any", (literal,)))
        closed = self.close_supposed(label, body, s)
        t = self.pen.suppose(fact)
        return self.pen.offer((fact, "cases", closed, t, s, t))

    def state_sure(self, literal):
        """Return an open entry that states the literal, which is sure."""
        sides = sides_against(("any", (negated(literal),)))
        return self.pen.offer((("any", (literal,)), "unit", self.bounds.hints(sides)))

    def close_supposed(self, label, body, s):
        """Return an entry with a contradiction to which the literal of the when body leads, supposed by entry s."""
        _, _, terms, relation, rhs = body
        for row in rows_of(terms, relation, rhs):
            if fails_in(self.bounds.box(), row):
                i = self.pen.offer((row, "then", label, s))
                hints = self.bounds.hints(sides_against(row))
                return self.pen.offer((NEVER, "unit", (*hints, i)))
        return None
