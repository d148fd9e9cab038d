"""The branching worker, who divides boxes until each one is closed or has a better solution."""

from commonground.workers.search import Search
from commonground.workers.settled import is_settled


class Branch:
    """A worker that remembers where it is in its search."""

    def __init__(self):
        self.search = None
        self.basis = None

    def turn(self, pen):
        """Search until an entry is written or a better point shown; return False if the ledger is settled."""
        if is_settled(pen.ledger, pen.standing):
            return False
        search = self.search
        # If an error ends the turn, the next one begins anew.
        self.search = None
        written = pen.written()
        if search is None or search.rests_on(pen) != self.basis:
            search = Search()
            search.begin(pen)
        shown = search.go_on(pen)
        while not shown and pen.written() == written:
            shown = search.go_on(pen)
        if not shown:
            self.search = search
            self.basis = search.rests_on(pen)
        return True
