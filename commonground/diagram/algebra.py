"""Diagrams from diagrams with the same pairs: the points of both, of at least one, and of the first one only."""

from commonground.diagram.shape import in_normal_shape, unfold

# Which points are wanted, by whether they belong to the first and to the second diagram.
OF_BOTH = ((True, True),)
OF_ONE = ((True, True), (True, False), (False, True))
OF_THE_FIRST_ONLY = ((True, False),)


def node_after(layers, v, n, place):
    """Return the number of the node to which the entry at this place leads from the node n of layer v, or -1."""
    if n < 0:
        return -1
    return layers[v][n][place]


class PairWalk:
    """Follows two diagrams at once. A state has the numbers of their nodes, -1 where a diagram is left for good."""

    def __init__(self, first, second, wanted):
        self.pairs, self.first = first
        _, self.second = second
        self.wanted = wanted

    def start(self):
        """Return the first state, or None if no point is wanted."""
        return self.judged((0 if self.first[0] else -1, 0 if self.second[0] else -1), False)

    def after(self, state, v, a):
        """Return the state after the unknown v got the value a, or None if no point behind it is wanted."""
        place = a - self.pairs[v][0]
        reached = (node_after(self.first, v, state[0], place), node_after(self.second, v, state[1], place))
        return self.judged(reached, v == len(self.pairs) - 1)

    def judged(self, state, at_end):
        """Return the state, or None if it leads to no point that is wanted."""
        alive = (state[0] >= 0, state[1] >= 0)
        for in_first, in_second in self.wanted:
            if alive == (in_first, in_second):
                return state
            # A diagram that is not left yet may still be left, but not the other way round.
            if not at_end and (alive[0] or not in_first) and (alive[1] or not in_second):
                return state
        return None


def meet(first, second):
    """Return the diagram of the points of both diagrams."""
    return unfold(first[0], PairWalk(first, second, OF_BOTH))


def join(first, second):
    """Return the diagram of the points of at least one of the diagrams."""
    return unfold(first[0], PairWalk(first, second, OF_ONE))


def difference(first, second):
    """Return the diagram of the points of the first diagram that are not points of the second one."""
    return unfold(first[0], PairWalk(first, second, OF_THE_FIRST_ONLY))


def pinned(diagram, v, a):
    """Return the diagram of those points whose value of the unknown v is a."""
    pairs, layers = diagram
    place = a - pairs[v][0]
    kept = [[entry if k == place else -1 for k, entry in enumerate(node)] for node in layers[v]]
    return (pairs, in_normal_shape([kept if x == v else layer for x, layer in enumerate(layers)], [0]))
