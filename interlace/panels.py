"""The calls of the desk: each answers a list of whole numbers, and keeps nothing."""

from interlace.shape import HIGH_AT, MOST_SIDE, MOST_SIGN, PLACES_AT, WIDE_AT
from interlace.shape import count_places, find_fault, find_place, find_square_beyond, find_squares, is_inside

MOST_BYTES = 1024

WRONG_SIGN = -1
TOO_LONG = -2
NOT_THERE = -4
AT_BORDER = -5
NO_PANEL = -6


def find_refusal(b):
    """Give the number by which every call but judge refuses b, or 0."""
    if len(b) > MOST_BYTES:
        return TOO_LONG
    if find_fault(b) is not None:
        return NO_PANEL
    return 0


def judge(b):
    """Answer 0 for a right panel's bytes, else -6, the kind of the first fault and its place."""
    # Length is told first, so that a fault is never told of too many bytes.
    if len(b) > MOST_BYTES:
        return [TOO_LONG]
    fault = find_fault(b)
    if fault is None:
        return [0]
    return [NO_PANEL, fault[0], fault[1]]


def size(b):
    """Answer 0, wide, high, how many places, how many crossings."""
    refusal = find_refusal(b)
    if refusal < 0:
        return [refusal]
    wide = b[WIDE_AT]
    high = b[HIGH_AT]
    return [0, wide, high, count_places(wide, high), b[PLACES_AT:].count(0)]


def place(x, y, k, b):
    """Answer 0, the place on side k of square (x, y), what stands there, the square beyond."""
    refusal = find_refusal(b)
    if refusal < 0:
        return [refusal]
    wide = b[WIDE_AT]
    high = b[HIGH_AT]
    if k > MOST_SIDE or not is_inside(x, y, wide, high):
        return [NOT_THERE]
    beyond = find_square_beyond(x, y, k, wide, high)
    if beyond is None:
        return [AT_BORDER]
    p = find_place(x, y, k, wide, high)
    return [0, p, b[PLACES_AT + p], beyond]


def squares(p, b):
    """Answer 0, the left or upper square at place p, the other."""
    refusal = find_refusal(b)
    if refusal < 0:
        return [refusal]
    wide = b[WIDE_AT]
    high = b[HIGH_AT]
    if p >= count_places(wide, high):
        return [NOT_THERE]
    pair = find_squares(p, wide, high)
    return [0, pair[0], pair[1]]


def set_it(p, z, b):
    """Answer how many bytes the panel has with z at place p, then these bytes."""
    refusal = find_refusal(b)
    if refusal < 0:
        return [refusal]
    if z > MOST_SIGN:
        return [WRONG_SIGN]
    if p >= count_places(b[WIDE_AT], b[HIGH_AT]):
        return [NOT_THERE]
    changed = list(b)
    changed[PLACES_AT + p] = z
    return [len(changed)] + changed
