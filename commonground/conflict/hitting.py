"""Hitting sets of lists of sets of integers, which are ascending tuples."""


def is_within(members, others):
    """Tell whether each of the members is one of the others."""
    for k in members:
        if k not in others:
            return False
    return True


def smallest_sets(sets):
    """Return the list of those sets that contain no other one as a proper subset, each once, in ascending order."""
    kept = []
    for many, members in sorted({(len(members), members) for members in sets}):
        if not any(len(other) < many and is_within(other, members) for other in kept):
            kept.append(members)
    return sorted(kept)


def hitting_sets(sets):
    """Return the list of all smallest hitting sets, each an ascending tuple, in ascending order."""
    wanted = smallest_sets(sets)
    hitting = [()]
    for place, members in enumerate(wanted):
        grown = []
        for chosen in hitting:
            grown += grown_to_hit(chosen, members, wanted[:place + 1])
        hitting = grown
    return sorted(hitting)


def grown_to_hit(chosen, members, sets):
    """Return the list of those smallest hitting sets of the sets that consist of the chosen numbers and one at most.

    The chosen numbers are a smallest hitting set of all of the sets but the last one, which has these members.
    """
    if any(k in members for k in chosen):
        return [chosen]
    grown = [tuple(sorted([*chosen, k])) for k in members]
    return [larger for larger in grown if is_needed_throughout(larger, sets)]


def is_needed_throughout(chosen, sets):
    """Tell whether each of the chosen numbers is the only one of them in some set."""
    needed = {}
    for members in sets:
        common = [k for k in chosen if k in members]
        if len(common) == 1:
            needed[common[0]] = True
    return len(needed) == len(chosen)
