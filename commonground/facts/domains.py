"""The values that remain to unknowns while facts remove some of them."""

from commonground.facts.fact import as_literal, negation
from commonground.model.literal import negated, terms_sum

# No bound of an unknown lies beyond it, so it is enough to tell values up to here apart.
REACH = 1000


def between(low, high):
    """Return the set of the values from low to high, a number whose bit a + REACH stands for a."""
    low = max(low, -REACH)
    high = min(high, REACH)
    if low > high:
        return 0
    return ((1 << (high - low + 1)) - 1) << (low + REACH)


def only(a):
    """Return the set of the one value a, or the empty set if no bound of an unknown reaches it."""
    if -REACH <= a <= REACH:
        return 1 << (a + REACH)
    return 0


def satisfying(literal):
    """Return the set of the values at which the literal holds."""
    _, relation, a = literal
    if relation == "<=":
        return between(-REACH, a)
    if relation == ">=":
        return between(a, REACH)
    if relation == "=":
        return only(a)
    return ((1 << (2 * REACH + 1)) - 1) ^ only(a)


def least_of(values):
    """Return the least member of a set of values that is not empty."""
    return (values & -values).bit_length() - 1 - REACH


def greatest_of(values):
    """Return the greatest member of a set of values that is not empty."""
    return values.bit_length() - 1 - REACH


class Domains:
    """The remaining values of some unknowns of a model, with which it keeps no connection."""

    def __init__(self, model, unknowns):
        self.sets = {v: between(model.low(v), model.high(v)) for v in unknowns}

    def left(self, v):
        """Return the list of the remaining values, ascending; there is one."""
        low = self.least(v)
        bits = f"{self.sets[v] >> (low + REACH):b}"
        return [low + k for k, bit in enumerate(bits[::-1]) if bit == "1"]

    def least(self, v):
        """Return the least remaining value; there is one."""
        return least_of(self.sets[v])

    def greatest(self, v):
        """Return the greatest remaining value; there is one."""
        return greatest_of(self.sets[v])

    def size(self, v):
        """Return the number of the remaining values."""
        return f"{self.sets[v]:b}".count("1")

    def is_single(self, v):
        """Return True if exactly one value remains to the unknown v, to which some value does."""
        return self.sets[v] & (self.sets[v] - 1) == 0

    def contains(self, v, a):
        """Return True if the value a remains to the unknown v."""
        return self.sets[v] & only(a) != 0

    def admits(self, literal):
        """Return True if some remaining value satisfies the literal."""
        v, relation, a = literal
        if relation == "!=":
            return self.sets[v] not in (0, only(a))
        return self.sets[v] & satisfying(literal) != 0

    def keep(self, literal):
        """Remove the values that do not satisfy the literal."""
        self.sets[literal[0]] = self.sets[literal[0]] & satisfying(literal)

    def all_left(self):
        """Return True if every unknown has a value left."""
        return all(self.sets.values())

    def deny(self, fact):
        """Remove values as if the fact failed, and return False if that is a conflict at once."""
        if fact[0] == "any":
            literals = [negated(literal) for literal in fact[1]]
        else:
            literals = self.demands(negation(fact))
        if literals is None:
            return False
        for literal in literals:
            self.keep(literal)
        return self.all_left()

    def demands(self, fact):
        """Return the list of the literals that the fact demands now, or None if it is a conflict."""
        if fact[0] == "row":
            return self.row_demands(fact)
        live = self.live_literals(fact)
        if not live:
            return None
        if len(live) == 1:
            return live
        return []

    def live_literals(self, clause):
        """Return the list of the first two live literals of the clause, or of all if there are not so many."""
        live = []
        for literal in clause[1]:
            if self.admits(literal):
                live.append(literal)
                if len(live) == 2:
                    return live
        return live

    def row_demands(self, row):
        """Return for each term the literal that it must satisfy beside the least sum of the others."""
        _, terms, rhs = row
        ends = {v: self.least(v) if c > 0 else self.greatest(v) for v, c in terms}
        room = rhs - terms_sum(terms, ends)
        if room < 0:
            return None
        return [as_literal(("row", ((v, c),), room + c * ends[v])) for v, c in terms]
