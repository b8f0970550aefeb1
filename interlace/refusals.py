"""By which number a call is refused, ahead of what it has to say itself."""

from interlace.shape import find_fault

MOST_NUMBERS = 1024

WRONG_SIGN = -1
TOO_LONG = -2
NOT_THERE = -4
NOT_SO = -5
NOT_RIGHT = -6


def is_too_long(numbers):
    """Tell whether bytes or a list are more than a call takes."""
    return len(numbers) > MOST_NUMBERS


def find_refusal(b):
    """Give the number by which every call but judge refuses b, or 0."""
    if is_too_long(b):
        return TOO_LONG
    if find_fault(b) is not None:
        return NOT_RIGHT
    return 0
