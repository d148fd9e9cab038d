"""The ends of a box while it is narrowed."""

from commonground.workers.boxes import whole_box


class Ends:
    """The low and the high of each unknown, at first the bounds of the model, with which it keeps no connection."""

    def __init__(self, model):
        lows, highs = whole_box(model)
        self.lows = list(lows)
        self.highs = list(highs)

    def box(self):
        """Return the box as it is now; it changes with the ends."""
        return (self.lows, self.highs)

    def frozen(self):
        """Return the box as a pair of tuples."""
        return (tuple(self.lows), tuple(self.highs))

    def cut(self, bound):
        """Cut off the values that do not satisfy the bound, and return False if no value is left."""
        v, relation, a = bound
        if relation == "<=":
            self.highs[v] = min(self.highs[v], a)
        else:
            self.lows[v] = max(self.lows[v], a)
        return self.lows[v] <= self.highs[v]
