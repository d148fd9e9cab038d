"""The narrowing worker, who writes bounds of single unknowns."""

from commonground.ledger.bounding import contradiction_in
from commonground.workers.sweep import Sweep


class Narrow:
    """A worker that remembers nothing from one turn to the next."""

    def turn(self, pen):
        """Go once over the awake open entries and the bodies, and return True if an entry was written."""
        written = pen.written()
        if contradiction_in(pen.ledger) is None:
            sweep = Sweep(pen)
            if sweep.read_bounds() and sweep.follow_entries():
                sweep.follow_bodies()
        return pen.written() > written
