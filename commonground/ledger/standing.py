"""The best point that was shown."""

from commonground.errors import NotASolution


class Standing:
    """Holds the best solution that was shown for the model of a ledger, which it shares."""

    def __init__(self, ledger):
        self.ledger = ledger
        self.point = None

    def show(self, point):
        """Hold the solution from now on if it is better than the one held, and return True then."""
        model = self.ledger.model
        if not model.is_solution(point):
            raise NotASolution()
        if self.point is not None and not model.is_better(model.worth(point), model.worth(self.point)):
            return False
        self.point = point
        return True

    def refresh(self):
        """Drop the point if an edit has made it no solution."""
        if self.point is not None and not self.ledger.model.is_solution(self.point):
            self.point = None

    def best(self):
        """Return the value and the point that is held, or None."""
        if self.point is None:
            return None
        return (self.ledger.model.worth(self.point), self.point)
