"""Ratios: exact quotients of integers, as pairs in lowest terms."""

from math import gcd


def ratio(top, bottom):
    """Return the ratio with the value top / bottom, bottom being any integer except 0."""
    divisor = gcd(top, bottom)
    if bottom < 0:
        divisor = -divisor
    return (top // divisor, bottom // divisor)


def whole(n):
    """Return the ratio with the value n."""
    return (n, 1)


def plus(a, b):
    """Return the sum of two ratios."""
    return ratio(a[0] * b[1] + b[0] * a[1], a[1] * b[1])


def minus(a, b):
    """Return the difference of two ratios."""
    return ratio(a[0] * b[1] - b[0] * a[1], a[1] * b[1])


def product(a, b):
    """Return the product of two ratios."""
    return ratio(a[0] * b[0], a[1] * b[1])


def is_less(a, b):
    """Return True if the ratio a is less than the ratio b."""
    return a[0] * b[1] < b[0] * a[1]


def is_whole(a):
    """Return True if the ratio is an integer."""
    return a[1] == 1


def floor_of(a):
    """Return the greatest integer that is not above the ratio."""
    return a[0] // a[1]
