"""By which number a call is refused, ahead of what it has to say itself."""

from interlace.crossings import list_crossings
from interlace.marking import count_marks
from interlace.shape import CROSSING, HIGH_AT, PLACES_AT, WIDE_AT
from interlace.shape import count_places, find_fault
from interlace.tracing import count_strands

MOST_NUMBERS = 1024

WRONG_SIGN = -1
TOO_LONG = -2
NOT_THERE = -4
NOT_SO = -5
NOT_RIGHT = -6
WRONG_LIST = -9


def is_too_long(numbers):
    """Tell whether bytes or a list are more than a call takes."""
    return len(numbers) > MOST_NUMBERS


def find_refusal(b):
    """Give the number by which every call but judge refuses b, or 0."""
    if is_too_long(b):
        return TOO_LONG
    if find_fault(b) is not None:
        return NOT_RIGHT
    return 0


def find_place_refusal(p, b):
    """Give the number by which b or place p is refused, or 0."""
    refusal = find_refusal(b)
    if refusal < 0:
        return refusal
    if p >= count_places(b[WIDE_AT], b[HIGH_AT]):
        return NOT_THERE
    return 0


def find_crossing_refusal(p, b):
    """Give the number by which b or the crossing at place p is refused, or 0."""
    refusal = find_place_refusal(p, b)
    if refusal < 0:
        return refusal
    if b[PLACES_AT + p] != CROSSING:
        return NOT_SO
    return 0


def find_strand_refusal(k, b):
    """Give the number by which b or strand k is refused, or 0."""
    refusal = find_refusal(b)
    if refusal < 0:
        return refusal
    if k >= count_strands(b):
        return NOT_THERE
    return 0


def are_bits(numbers, count):
    """Tell whether these are so many numbers, each 0 or 1."""
    return len(numbers) == count and all([number in (0, 1) for number in numbers])


def find_list_refusal(b, numbers):
    """Give the number by which b, or a list beside it for its length, is refused, or 0."""
    if is_too_long(numbers):
        return TOO_LONG
    return find_refusal(b)


def find_weave_refusal(b, w):
    """Give the number by which b or the weave w is refused, or 0."""
    refusal = find_list_refusal(b, w)
    if refusal < 0:
        return refusal
    if not are_bits(w, len(list_crossings(b))):
        return WRONG_LIST
    return 0


def find_marks_refusal(b, m):
    """Give the number by which b or the marks m, right or not, are refused, or 0."""
    refusal = find_list_refusal(b, m)
    if refusal < 0:
        return refusal
    if not are_bits(m, count_marks(b)):
        return WRONG_LIST
    return 0
