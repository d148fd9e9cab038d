"""What facts and linear conditions can reach in a box (lows, highs)."""

from math import gcd

from commonground.model.literal import rows_of


def least_in(box, terms):
    """Return the least sum that the terms have in the box."""
    lows, highs = box
    return sum(c * (lows[v] if c > 0 else highs[v]) for v, c in terms)


def may_hold(box, literal):
    """Tell whether the literal holds for some value in the box."""
    lows, highs = box
    v, relation, a = literal
    if relation == "<=":
        return lows[v] <= a
    if relation == ">=":
        return highs[v] >= a
    if relation == "=":
        return lows[v] <= a <= highs[v]
    return lows[v] != a or highs[v] != a


def fails_in(box, fact):
    """Tell whether the ends of the box show that the fact holds nowhere in it."""
    if fact[0] == "row":
        return least_in(box, fact[1]) > fact[2]
    return not any(may_hold(box, literal) for literal in fact[1])


def linear_may_hold(box, terms, relation, rhs):
    """Tell whether the sum of the terms stands in the relation to rhs at some point of the box."""
    if any(fails_in(box, row) for row in rows_of(terms, relation, rhs)):
        return False
    return relation != "=" or sum_may_be(box, terms, rhs)


def sum_may_be(box, terms, rhs):
    """Tell whether the terms have just the sum rhs somewhere in the box."""
    lows, highs = box
    # Above its least sum, a term adds its size up to so many times as its unknown has room.
    parts = sorted([(abs(c), highs[v] - lows[v]) for v, c in terms if lows[v] < highs[v]])
    amounts = {rhs - least_in(box, terms): True}
    while parts and not is_dense(parts):
        size, room = parts.pop()
        amounts = amounts_left(amounts, size, room, parts)
    return any(may_be_added(amount, parts) for amount in amounts)


def greatest_added(parts):
    """Return the greatest amount that the parts add together."""
    return sum(size * room for size, room in parts)


def common_size(parts):
    """Return the greatest number of which all sizes are multiples, or 0 if there are no parts."""
    divisor = 0
    for size, _ in parts:
        divisor = gcd(divisor, size)
    return divisor


def is_dense(parts):
    """Tell whether the parts, by ascending sizes, surely add every multiple of their common size up to the greatest."""
    divisor = common_size(parts)
    reached = 0
    for size, room in parts:
        if size > reached + divisor:
            return False
        reached = reached + size * room
    return True


def may_be_added(amount, parts):
    """Return False only if the parts cannot add just this amount; of dense parts it is certain that they can."""
    divisor = common_size(parts)
    if divisor == 0:
        return amount == 0
    return 0 <= amount <= greatest_added(parts) and amount % divisor == 0


def amounts_left(amounts, size, room, parts):
    """Return what may be left of the amounts for the parts when one of this size and room is taken, as dict keys."""
    greatest = greatest_added(parts)
    left = {}
    for amount in amounts:
        fewest = max(0, -((greatest - amount) // size))
        for many in range(fewest, min(room, amount // size) + 1):
            if may_be_added(amount - many * size, parts):
                left[amount - many * size] = True
    return left
