"""What stands in a step: the numbers of other steps, and a label."""

LABELLED = ("given", "look", "apart", "then")


def numbers_in(step):
    """Return the list of the numbers of steps that stand in the step, in order."""
    rule = step[1]
    if rule == "sum":
        return [i for i, _ in step[2]]
    if rule == "look":
        return list(step[3])
    if rule == "unit":
        return list(step[2])
    if rule == "then":
        return [step[3]]
    if rule in ("divide", "absurd", "weaken"):
        return [step[2]]
    if rule == "cases":
        return list(step[2:])
    return []


def label_in(step):
    """Return the label that the step uses, or None."""
    if step[1] in LABELLED:
        return step[2]
    return None


def with_numbers(step, numbers):
    """Return the step with these numbers in place of those of numbers_in, in the same order."""
    fact, rule = step[0], step[1]
    if rule == "sum":
        return (fact, rule, tuple((i, pair[1]) for i, pair in zip(numbers, step[2])))
    if rule == "look":
        return (fact, rule, step[2], tuple(numbers))
    if rule == "unit":
        return (fact, rule, tuple(numbers))
    if rule == "then":
        return (fact, rule, step[2], numbers[0])
    if rule == "divide":
        return (fact, rule, numbers[0], step[3])
    if rule in ("absurd", "weaken", "cases"):
        return (fact, rule, *numbers)
    return step


def numbers_behind(steps, number):
    """Return the list of this number and of those of all steps on which the step rests, ascending."""
    behind = {number: True}
    waiting = [number]
    while waiting:
        reached = waiting.pop()
        for i in numbers_in(steps[reached]):
            if i not in behind and 0 <= i < len(steps):
                behind[i] = True
                waiting.append(i)
    return sorted(behind)
