"""Building diagrams: of the solutions of a model, and of points."""

from commonground.diagram.shape import unfold
from commonground.diagram.track import Track
from commonground.model.body import unknowns_of
from commonground.model.plain import check_points


class ModelWalk:
    """Follows all bodies of a model. A state has the states of their tracks."""

    def __init__(self, model):
        bodies = [model.body(label) for label in model.labels()]
        self.tracks = [Track(model, body) for body in bodies]
        self.touched = [[] for _ in range(model.many())]
        for k, body in enumerate(bodies):
            for v in unknowns_of(body):
                self.touched[v].append(k)

    def start(self):
        """Return the first state, or None if some body cannot hold."""
        state = tuple([track.start() for track in self.tracks])
        return None if None in state else state

    def after(self, state, v, a):
        """Return the state after the unknown v got the value a, or None if some body cannot hold any more."""
        states = list(state)
        for k in self.touched[v]:
            states[k] = self.tracks[k].after(states[k], v, a)
            if states[k] is None:
                return None
        return tuple(states)


class PointsWalk:
    """Follows points that begin with the same values. A state is the number of such a beginning."""

    def __init__(self, points):
        self.beginnings = [{}]
        for point in points:
            self.follow(point)

    def follow(self, point):
        """Follow the point, too."""
        number = 0
        for a in point:
            if a not in self.beginnings[number]:
                self.beginnings[number][a] = len(self.beginnings)
                self.beginnings.append({})
            number = self.beginnings[number][a]

    def start(self):
        """Return the first state, or None if there are no points."""
        return 0 if self.beginnings[0] else None

    def after(self, state, v, a):
        """Return the state after the unknown v got the value a, or None if no point goes on in this way."""
        return self.beginnings[state].get(a)


def diagram_of(model):
    """Return the diagram of the solutions of the model."""
    check_points(model)
    pairs = tuple((model.low(v), model.high(v)) for v in range(model.many()))
    return unfold(pairs, ModelWalk(model))


def diagram_from(pairs, points):
    """Return the diagram with these pairs and exactly these points, which lie in the pairs."""
    return unfold(pairs, PointsWalk(points))
