"""Diagrams in normal shape, made from walks through the values of all unknowns.

A walk has a state before the first value and after each one, and None where no point can be reached any more. After
the last value any state means that the point belongs to the diagram.
"""


def unfold(pairs, walk):
    """Return the diagram with these pairs and the points to which the walk leads."""
    first = walk.start()
    states = [] if first is None else [first]
    layers = []
    for v, (low, high) in enumerate(pairs):
        numbers = {}
        layer = []
        for state in states:
            told = [walk.after(state, v, a) for a in range(low, high + 1)]
            layer.append([-1 if after is None else numbers.setdefault(after, len(numbers)) for after in told])
        layers.append(layer)
        states = list(numbers)
    # Behind the last layer all states are the same.
    return (pairs, in_normal_shape(layers, [0] * len(states)))


def in_normal_shape(layers, places):
    """Return the layers in normal shape; places has for each state behind the last layer its number there."""
    kept = []
    for layer in reversed(layers):
        numbers = {}
        found = []
        for node in layer:
            merged = tuple([-1 if k < 0 else places[k] for k in node])
            found.append(numbers.setdefault(merged, len(numbers)) if max(merged) >= 0 else -1)
        kept.append(list(numbers))
        places = found
    if max(places, default=-1) < 0:
        return tuple([() for _ in layers])
    return in_order(kept[::-1])


def in_order(layers):
    """Return the layers, whose first one has one node, with the nodes numbered as they are read."""
    ordered = []
    reached = [0]
    for layer in layers:
        numbers = {}
        nodes = []
        for n in reached:
            nodes.append(tuple([-1 if k < 0 else numbers.setdefault(k, len(numbers)) for k in layer[n]]))
        ordered.append(tuple(nodes))
        reached = list(numbers)
    return tuple(ordered)
