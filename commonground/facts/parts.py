"""What stands in a step: the numbers of other steps, and a label."""

LABELLED = ("given", "look", "apart", "then")


def numbers_in(step):
    """Return the list of the numbers of steps that stand in the step, in order."""
    rule = step[1]
    if rule == "sum":
        return [i for i, _ in step[2]]
    if rule == "look":
        return list(step[3])
    if rule == "unit":
        return list(step[2])
    if rule == "then":
        return [step[3]]
    if rule in ("divide", "absurd", "weaken"):
        return [step[2]]
    if rule == "cases":
        return list(step[2:])
    return []


def label_in(step):
    """Return the label that the step uses, or None."""
    if step[1] in LABELLED:
        return step[2]
    return None
