"""Pens: what a worker writes with in one turn."""

from commonground.errors import Stopped
from commonground.facts.judge import refers_to


def entry_instead(ledger, step):
    """Return the lowest awake entry that states the fact of the step, open or under the same, or None."""
    if not all(0 <= i < ledger.many() for i in refers_to(step)):
        return None
    numbers = [ledger.find(step[0]), ledger.find_under(step[0], ledger.under_next(step))]
    return min([i for i in numbers if i is not None], default=None)


class Pen:
    """Writes in a ledger what does not stand there, as long as there is room."""

    def __init__(self, ledger, standing, room=None):
        self.ledger = ledger
        self.standing = standing
        self.room = room
        self.spent = 0

    def offer(self, step):
        """Return the number of an entry that states the fact of the step, if need be of a new one."""
        i = entry_instead(self.ledger, step)
        if i is None:
            return self.write(step)
        return i

    def suppose(self, fact):
        """Return the number of an awake supposition of the fact, if need be of a new one."""
        i = self.ledger.find_supposed(fact)
        if i is None:
            return self.write((fact, "suppose"))
        return i

    def write(self, step):
        """Offer the step to the ledger and return the number of the new entry."""
        if self.room is not None and self.spent >= self.room:
            raise Stopped()
        number = self.ledger.offer(step)
        self.spent += 1
        return number

    def written(self):
        """Return the number of entries that were written."""
        return self.spent
