"""Written integers."""

from commonground.errors import TooLarge

MOST_DIGITS = 600
# The least integer with more than MOST_DIGITS digits.
TOO_LONG = (10 ** 60) ** 10


def integer_text(n):
    """Return the written integer."""
    if not -TOO_LONG < n < TOO_LONG:
        raise TooLarge()
    return str(n)


def read_integer(word):
    """Return the integer that the word writes, or None if it is not a written integer."""
    digits = word[1:] if word.startswith("-") else word
    if not 1 <= len(digits) <= MOST_DIGITS or not all("0" <= sign <= "9" for sign in digits):
        return None
    if digits.startswith("0") and word != "0":
        return None
    return int(word)
