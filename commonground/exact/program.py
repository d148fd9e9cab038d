"""The inequalities of a linear program: its rows, and then two bounds for each column."""


def inequalities(lows, highs, rows):
    """Return the number of the inequalities of the program."""
    return len(rows) + 2 * len(lows)


def inequality_of(lows, highs, rows, q):
    """Return the terms and the rhs of the inequality q."""
    if q < len(rows):
        return rows[q]
    j, side = divmod(q - len(rows), 2)
    if side == 0:
        return (((j, 1),), highs[j])
    return (((j, -1),), -lows[j])
