"""Numbers as they are written in the items of texts."""

from planless.checks import is_number

MOST_DIGITS = 60


def integer_in(item):
    """Return the integer that is written so, or None if none is."""
    digits = item.removeprefix("-")
    # isdigit alone would let digits of other scripts pass.
    if not digits.isascii() or not digits.isdigit() or len(digits) > MOST_DIGITS:
        return None
    if digits[0] == "0" and item != "0":
        return None
    return int(item)


def number_in(item):
    """Return the number that is written so, or None if none is."""
    if "/" not in item:
        return integer_in(item)
    above, _, below = item.partition("/")
    pair = integer_in(above), integer_in(below)
    return pair if is_number(pair) else None
