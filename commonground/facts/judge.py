"""The judge, who knows only the model, and what steps are under."""

from commonground.facts.fact import implies, is_contradiction
from commonground.facts.parts import numbers_in
from commonground.facts.rules import follows


def refers_to(step):
    """Return the list of the numbers of the steps that the step refers to, in order."""
    return numbers_in(step)


def above_of(earlier, i):
    """Return what the step i is under; a number that is not that of an earlier step adds nothing."""
    if 0 <= i < len(earlier):
        return earlier[i]
    return ()


def under_of(earlier, number, step):
    """Return what the step is under if it has this number, earlier being what the steps before it are under."""
    if step[1] == "suppose":
        return (number,)
    if step[1] == "cases":
        _, _, i, j, s, t = step
        above = [n for n in above_of(earlier, i) if n != s] + [n for n in above_of(earlier, j) if n != t]
    else:
        above = [n for k in numbers_in(step) for n in above_of(earlier, k)]
    return tuple(sorted(set(above)))


def unders(steps):
    """Return the list of what each of the steps is under."""
    found = []
    for number, step in enumerate(steps):
        found.append(under_of(found, number, step))
    return found


def first_bad(model, steps):
    """Return the number of the first step that does not follow from those before it, or None."""
    entries = []
    for number, step in enumerate(steps):
        if not follows(model, entries, step):
            return number
        entries.append(step)
    return None


def accepts(model, certificate):
    """Return True if the judge accepts the certificate."""
    steps = certificate[-1]
    if not steps or first_bad(model, steps) is not None or unders(steps)[-1] != ():
        return False
    last = steps[-1][0]
    if certificate[0] == "none":
        return is_contradiction(last)
    point = certificate[1]
    return model.is_solution(point) and implies(last, model.goal_row(model.worth(point)))
