"""Reading diagrams: which points belong to them, in their order, and which are best."""

from commonground.errors import NoSuch


def belongs(diagram, point):
    """Return True if the point, whose values lie in the pairs, belongs to the diagram."""
    pairs, layers = diagram
    if not layers[0]:
        return False
    n = 0
    for v, a in enumerate(point):
        n = layers[v][n][a - pairs[v][0]]
        if n < 0:
            return False
    return True


def totals_of(layers):
    """Return for each layer the list of the numbers of points behind its nodes; behind the last one it is [1]."""
    totals = [[1]]
    for layer in reversed(layers):
        behind = totals[-1]
        totals.append([sum(behind[n] for n in node if n >= 0) for node in layer])
    return totals[::-1]


def count(diagram):
    """Return the number of points."""
    return sum(totals_of(diagram[1])[0])


def size(diagram):
    """Return the number of nodes of all layers."""
    return sum(len(layer) for layer in diagram[1])


def solution_at(diagram, k):
    """Return the point with the number k."""
    pairs, layers = diagram
    totals = totals_of(layers)
    if not 0 <= k < sum(totals[0]):
        raise NoSuch(k)
    point = []
    n = 0
    left = k
    for v, layer in enumerate(layers):
        for place, entry in enumerate(layer[n]):
            behind = totals[v + 1][entry] if entry >= 0 else 0
            if left < behind:
                point.append(pairs[v][0] + place)
                n = entry
                break
            left -= behind
    return tuple(point)


def rank_of(diagram, point):
    """Return the number of the point, whose values lie in the pairs, or None if it does not belong to the diagram."""
    if not belongs(diagram, point):
        return None
    pairs, layers = diagram
    totals = totals_of(layers)
    rank = 0
    n = 0
    for v, a in enumerate(point):
        node = layers[v][n]
        place = a - pairs[v][0]
        rank += sum(totals[v + 1][entry] for entry in node[:place] if entry >= 0)
        n = node[place]
    return rank


def points_of(diagram):
    """Yield the points, each once, in ascending order."""
    pairs, layers = diagram
    if layers[0]:
        yield from points_behind(pairs, layers, 0, ())


def points_behind(pairs, layers, n, values):
    """Yield the points that begin with the values, which lead to the node n."""
    v = len(values)
    if v == len(layers):
        yield values
    else:
        for place, entry in enumerate(layers[v][n]):
            if entry >= 0:
                longer = (*values, pairs[v][0] + place)
                yield from points_behind(pairs, layers, entry, longer)


def best_of(diagram, goal):
    """Return the value and the point that is the best one for the goal, or None if there is no point."""
    pairs, layers = diagram
    if not layers[0]:
        return None
    sense, terms, constant = goal
    sign = 1 if sense == "max" else -1
    coefs = [0] * len(layers)
    for v, c in terms:
        coefs[v] = sign * c
    greatest = greatest_sums(pairs, layers, coefs)
    point = []
    n = 0
    for v, layer in enumerate(layers):
        sums = sums_at(layer[n], pairs[v][0], coefs[v], greatest[v + 1])
        a = min([a for a in sums if sums[a] == greatest[v][n]])
        n = layer[n][a - pairs[v][0]]
        point.append(a)
    return (constant + sign * greatest[0][0], tuple(point))


def greatest_sums(pairs, layers, coefs):
    """Return for each layer the list of the greatest sums behind its nodes; behind the last one it is [0]."""
    greatest = [[0]]
    for v in range(len(layers) - 1, -1, -1):
        sums = [sums_at(node, pairs[v][0], coefs[v], greatest[-1]) for node in layers[v]]
        greatest.append([max(list(found.values())) for found in sums])
    return greatest[::-1]


def sums_at(node, low, c, behind):
    """Return a dict from the values at which the node leads on to the greatest sums there and behind."""
    return {low + k: c * (low + k) + behind[entry] for k, entry in enumerate(node) if entry >= 0}


def values_of(diagram, v):
    """Return the list of the values of the unknown v in points of the diagram, ascending."""
    pairs, layers = diagram
    low, high = pairs[v]
    return [a for a in range(low, high + 1) if any(node[a - low] >= 0 for node in layers[v])]
