"""Crossings: where they stand, and which strands they are of."""

from interlace.ends import find_end
from interlace.shape import CROSSING, HIGH_AT, PLACES_AT, WIDE_AT
from interlace.shape import count_uprights, find_squares
from interlace.tracing import list_strands

RIGHT = 1
LOWER = 2


def list_places_with(sign, b):
    """Give the places at which this stands, rising."""
    return [p for p, z in enumerate(b[PLACES_AT:]) if z == sign]


def list_crossings(b):
    """Give the places of the crossings, rising."""
    return list_places_with(CROSSING, b)


def find_pair(p, of_pieces, b):
    """Give what is told of the pieces, for the one that begins at place p and for the one that ends there."""
    # Of the left or upper square alone: at a crossing the pieces beyond go straight on.
    wide = b[WIDE_AT]
    high = b[HIGH_AT]
    s = find_squares(p, wide, high)[0]
    k = RIGHT if p < count_uprights(wide, high) else LOWER
    return (of_pieces[find_end(s, k, 0) // 2], of_pieces[find_end(s, k, 1) // 2])


def find_crossed(p, b):
    """Give the two strands of the crossing at place p."""
    return find_pair(p, list_strands(b), b)


def list_crossed(b):
    """Give the two strands of each crossing, by the crossings' places."""
    of_pieces = list_strands(b)
    return [find_pair(p, of_pieces, b) for p in list_crossings(b)]


def list_meetings(i, j, b):
    """Give the places at which strands i and j cross, rising."""
    both = ((i, j), (j, i))
    return [p for p, pair in zip(list_crossings(b), list_crossed(b)) if pair in both]


def count_crossings_with_others(k, b):
    """Count the crossings of strand k with other strands."""
    return len([pair for pair in list_crossed(b) if k in pair and pair != (k, k)])
