"""Tracks: they follow one body while the unknowns get their values."""

from commonground.diagram.walks import walk_of


class Track:
    """Follows a body of a model, with which it keeps no connection."""

    def __init__(self, model, body):
        self.walk = walk_of(model, body)

    def start(self):
        """Return the state before the first value, or None if the body cannot hold at all."""
        return self.walk.start()

    def after(self, state, v, a):
        """Return the state after the unknown v got the value a, or None if the body cannot hold any more."""
        return self.walk.after(state, v, a)
