"""The ends of the pieces: where they lie, and with which end each is joined."""

from interlace.shape import ALONG, CROSSING, HIGH_AT, PLACES_AT, WIDE_AT
from interlace.shape import count_squares, find_place, find_square_beyond

PIECES = 4
ENDS = 8


def count_pieces(b):
    """Count the pieces of a right panel."""
    return PIECES * count_squares(b)


def count_ends(b):
    """Count the ends of a right panel."""
    return ENDS * count_squares(b)


def find_end(s, k, last):
    """Give the end at side k of square s: of the piece that begins there (last 0) or ends there (last 1)."""
    # The piece that ends at a side is the one before the piece that begins there.
    return ENDS * s + (2 * k - last) % ENDS


def find_side(e):
    """Give the side of its square at which end e lies."""
    return (e % ENDS + 1) // 2 % 4


def find_other_end(e):
    """Give the other end of the piece that has end e."""
    return e + 1 - 2 * (e % 2)


def find_end_place(e, b):
    """Give the place at which end e lies, or None at the border."""
    wide = b[WIDE_AT]
    high = b[HIGH_AT]
    x = e // ENDS % wide
    y = e // ENDS // wide
    k = find_side(e)
    if find_square_beyond(x, y, k, wide, high) is None:
        return None
    return find_place(x, y, k, wide, high)


def find_joined(e, b):
    """Give the end that end e is joined with."""
    s = e // ENDS
    k = find_side(e)
    last = e % 2
    p = find_end_place(e, b)
    if p is None or b[PLACES_AT + p] == ALONG:
        return find_end(s, k, 1 - last)
    wide = b[WIDE_AT]
    beyond = find_square_beyond(s % wide, s // wide, k, wide, b[HIGH_AT])
    if b[PLACES_AT + p] == CROSSING:
        return find_end(beyond, (k + 2) % 4, last)
    return find_end(beyond, (k + 2) % 4, 1 - last)
