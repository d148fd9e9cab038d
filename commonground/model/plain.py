"""Plain looking: all points inside, one by one."""

from commonground.errors import TooLarge

MOST_POINTS = 20000


def check_points(model):
    """Raise TooLarge if more points are inside than are looked at."""
    points = 1
    for v in range(model.many()):
        points = points * (model.high(v) - model.low(v) + 1)
    if points > MOST_POINTS:
        raise TooLarge()


def points_inside(model):
    """Return the list of the points inside, in ascending order."""
    check_points(model)
    points = [()]
    for v in range(model.many()):
        worths = list(range(model.low(v), model.high(v) + 1))
        points = [point + (a,) for point in points for a in worths]
    return points


def solutions(model):
    """Return the list of all solutions, in ascending order."""
    return [point for point in points_inside(model) if model.is_solution(point)]


def best_plain(model):
    """Return the best value and the first point that has it, or None if there is no solution."""
    best = None
    for point in solutions(model):
        worth = model.worth(point)
        if best is None or model.is_better(worth, best[0]):
            best = (worth, point)
    return best
