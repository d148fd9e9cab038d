"""Smallest conflicts and smallest repairs of a model, and the cheapest repair."""

from commonground.conflict.evidence import Evidence
from commonground.conflict.hitting import hitting_sets
from commonground.errors import NoSuch, Taken, TooLarge

MOST_SOFT = 10


def check_soft(model, soft):
    """Raise an error unless these are labels of the model, not too many and each one once."""
    if len(soft) > MOST_SOFT:
        raise TooLarge()
    for k, label in enumerate(soft):
        if not model.has(label):
            raise NoSuch(label)
        if label in soft[:k]:
            raise Taken(label)


def in_order(model, labels):
    """Return the labels as a tuple in the order of the constraints of the model."""
    return tuple(label for label in model.labels() if label in labels)


def smallest_conflict(model, order):
    """Return the smallest conflict for the order, with a certificate, or None if the model has a solution."""
    check_soft(model, order)
    evidence = Evidence(model, order)
    if not evidence.is_conflict(order):
        return None
    conflict = evidence.smallest_within(order)
    return (in_order(model, conflict), evidence.answer(conflict))


def conflicts_and_repairs(evidence, labels):
    """Return the lists of all smallest conflicts and of all smallest repairs, ascending tuples of places of the labels.

    The labels are the soft ones in the order of the model.
    """
    conflicts = []
    while True:
        # Each repair hits all conflicts, so what hits those found so far either is one or misses another conflict.
        repairs = hitting_sets(conflicts)
        missed = conflict_missed(evidence, labels, repairs)
        if missed is None:
            return (sorted(conflicts), repairs)
        conflicts.append(missed)


def conflict_missed(evidence, labels, repairs):
    """Return a smallest conflict that has nothing in common with one of the repairs, or None."""
    for repair in repairs:
        rest = labels_without(labels, repair)
        if evidence.is_conflict(rest):
            conflict = evidence.smallest_within(rest)
            return tuple(k for k, label in enumerate(labels) if label in conflict)
    return None


def labels_at(labels, places):
    """Return the tuple of the labels at these places."""
    return tuple(labels[k] for k in places)


def labels_without(labels, places):
    """Return the tuple of the labels at all other places."""
    return tuple(label for k, label in enumerate(labels) if k not in places)


def survey(model, soft):
    """Return all smallest conflicts with certificates and all smallest repairs with solutions, a pair of lists."""
    check_soft(model, soft)
    evidence = Evidence(model, soft)
    labels = in_order(model, soft)
    conflicts, repairs = conflicts_and_repairs(evidence, labels)
    shown = [(labels_at(labels, places), evidence.answer(labels_at(labels, places))) for places in conflicts]
    solved = [(labels_at(labels, places), evidence.answer(labels_without(labels, places))[1]) for places in repairs]
    return (shown, solved)


def cheapest_repair(model, soft, weights):
    """Return the weight and the labels of the cheapest repair and a solution without them, or None if there is none."""
    check_soft(model, soft)
    evidence = Evidence(model, soft)
    labels = in_order(model, soft)
    weighing = dict(zip(soft, weights))
    _, repairs = conflicts_and_repairs(evidence, labels)
    if not repairs:
        return None
    ranked = [(sum(weighing[labels[k]] for k in places), len(places), places) for places in repairs]
    weight, _, places = min(ranked)
    return (weight, labels_at(labels, places), evidence.answer(labels_without(labels, places))[1])
