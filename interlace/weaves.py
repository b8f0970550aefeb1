"""Weaves: which strand is over at each crossing, and whether over and under take turns."""

from interlace.crossings import find_crossed, list_crossings
from interlace.ends import find_end_place, find_other_end
from interlace.hanging import count_parts, list_parts
from interlace.tracing import list_courses


def map_bits(b, w):
    """Give the bits of the weave w by the places of the crossings."""
    return dict(zip(list_crossings(b), w))


def find_over(p, b, w):
    """Give the strand that is over at the crossing at place p."""
    pair = find_crossed(p, b)
    return pair[0] if map_bits(b, w)[p] == 1 else pair[1]


def make_weave(b, c):
    """Give the weave that is made by the choice c of a bit for each part."""
    return [c[number] for number in list_parts(b)]


def choose_bits(b, w):
    """Give for each part the bit that more of its crossings have in w, and 0 where as many have either."""
    numbers = list_parts(b)
    choice = []
    for number in range(count_parts(b)):
        bits = [bit for bit, other in zip(w, numbers) if other == number]
        choice.append(1 if 2 * sum(bits) > len(bits) else 0)
    return choice


def mend_weave(b, w):
    """Give the weave w mended."""
    return make_weave(b, choose_bits(b, w))


def list_passes(course, bits, b):
    """Give the crossings that a course passes: of each the place, and 1 if the strand is over there, else 0."""
    passes = []
    for e in course:
        left = find_other_end(e)
        p = find_end_place(left, b)
        if p in bits:
            # Left at a piece's end, and not at its beginning, a bit tells the contrary.
            passes.append((p, bits[p] ^ (left % 2)))
    return passes


def find_wrong_turn(passes):
    """Give the first two crossings, one behind the other, that are both over or both under, or None."""
    for at, passed in enumerate(passes):
        following = passes[(at + 1) % len(passes)]
        if passed[1] == following[1]:
            return (passed[0], following[0])
    return None


def find_wrong_strand(b, w):
    """Give the first strand along which w does not take turns and the two crossings where it is wrong, or None."""
    bits = map_bits(b, w)
    for k, course in enumerate(list_courses(b)):
        wrong = find_wrong_turn(list_passes(course, bits, b))
        if wrong is not None:
            return (k, wrong[0], wrong[1])
    return None
