"""The values that remain to the unknowns of a model during a descent."""

from commonground.facts.domains import Domains


class Remaining:
    """Remaining values, at first all within the bounds of the model, with which it keeps no connection."""

    def __init__(self, model):
        self.unknowns = list(range(model.many()))
        self.domains = Domains(model, self.unknowns)

    def left(self, v):
        """Return a new list of the remaining values of the unknown v, ascending."""
        return self.domains.left(v)

    def fix(self, v, a):
        """Leave only the value a, which remains, to the unknown v."""
        self.domains.keep((v, "=", a))

    def apply(self, fact):
        """Apply the fact; return the list of the unknowns that lost values, or None if it is a conflict."""
        demands = self.domains.demands(fact)
        if demands is None:
            return None
        lost = {}
        for literal in demands:
            before = self.domains.sets[literal[0]]
            self.domains.keep(literal)
            if self.domains.sets[literal[0]] != before:
                lost[literal[0]] = True
        return sorted(lost)

    def single(self):
        """Return True if every unknown has exactly one remaining value."""
        return all(self.is_single(v) for v in self.unknowns)

    def is_single(self, v):
        """Return True if the unknown v has exactly one remaining value."""
        return self.domains.is_single(v)

    def least(self, v):
        """Return the least remaining value of the unknown v."""
        return self.domains.least(v)

    def size(self, v):
        """Return the number of the remaining values of the unknown v."""
        return self.domains.size(v)

    def live_pair(self, fact):
        """Return the list of the first two live literals of a clause that has so many, and of other facts none."""
        if fact[0] == "row":
            return []
        live = self.domains.live_literals(fact)
        return live if len(live) == 2 else []

    def copied(self, unknowns):
        """Return a dict from the unknowns to the sets of their remaining values, as domains write them."""
        return {v: self.domains.sets[v] for v in unknowns}
