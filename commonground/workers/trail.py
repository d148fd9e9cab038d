"""The trail of a descent: what removed which values, and on what of it a conflict rests.

Sets of values are written as domains write them.
"""

from commonground.facts.domains import greatest_of, least_of, satisfying
from commonground.model.literal import terms_sum


def least_end(values, c):
    """Return the member of the set at which c times the value is least."""
    return least_of(values) if c > 0 else greatest_of(values)


def values_before(v, c, a):
    """Return the set of the values of the unknown v at which c times the value is less than at a."""
    return satisfying((v, "<=", a - 1) if c > 0 else (v, ">=", a + 1))


class Needs:
    """The removed values on which a conflict rests, as far as it has been followed back."""

    def __init__(self, first):
        self.first = first
        self.needed = {v: 0 for v in first}

    def among(self, removed):
        """Return those of the removed values, a dict from unknowns to sets, that are needed."""
        hit = {v: removed[v] & self.needed[v] for v in removed}
        return {v: hit[v] for v in hit if hit[v] != 0}

    def need(self, v, values):
        """Need the removal of these values of the unknown v, as far as it had them at first."""
        self.needed[v] = self.needed[v] | self.first[v] & values

    def need_fact(self, fact, before, hit):
        """Need what led the fact to remove the hit values, or to be a conflict if none are hit."""
        if fact[0] == "any":
            for literal in fact[1]:
                if before[literal[0]] & satisfying(literal) == 0:
                    self.need(literal[0], satisfying(literal))
        elif hit:
            for x in hit:
                self.need_row(fact, {**before, x: hit[x]}, x)
        else:
            self.need_row(fact, before, None)

    def need_row(self, row, before, x):
        """Need what makes the least sum exceed the rhs where these values remained; x has lost its own in this way."""
        _, terms, rhs = row
        ends = {v: least_end(before[v], c) for v, c in terms}
        spare = terms_sum(terms, ends) - rhs - 1
        gains = sorted([(c * (ends[v] - least_end(self.first[v], c)), v, c) for v, c in terms if v != x])
        for gain, v, c in gains:
            if gain <= spare:
                # The least sum exceeds the rhs without what this term lost, too.
                spare -= gain
            else:
                self.need(v, values_before(v, c, ends[v]))


class Trail:
    """The events of a descent in their order.

    An event is a tuple (number, fact, before, removed): the entry that was applied, with its fact, and two dicts from
    unknowns to sets of values: what remained to the unknowns of the fact, and what was removed. Where an unknown was
    fixed, number and fact are None.
    """

    def __init__(self, first):
        self.first = first
        self.events = []

    def note(self, number, fact, before, removed):
        """Add an event."""
        self.events.append((number, fact, before, removed))

    def causes(self, number, fact, before):
        """Return the unknowns that were fixed, ascending, and the entries in order by which the fact is a conflict."""
        needs = Needs(self.first)
        needs.need_fact(fact, before, {})
        numbers = [number]
        fixed = []
        for earlier, told, remained, removed in reversed(self.events):
            hit = needs.among(removed)
            if hit and earlier is None:
                fixed += list(hit)
            elif hit:
                numbers.append(earlier)
                needs.need_fact(told, remained, hit)
        return (sorted(fixed), numbers[::-1])
