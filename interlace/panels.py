"""The calls of the desk: each answers a list of whole numbers, and keeps nothing."""

from interlace.crossings import count_crossings_with_others, find_crossed, list_crossings, list_meetings
from interlace.drawings import draw, find_drawing_fault, read_panel
from interlace.ends import count_ends, count_pieces, find_joined
from interlace.hanging import count_groups, count_parts, list_groups, list_parts
from interlace.marking import add_marks, count_free, find_wrong_mark, list_members, mark_set
from interlace.mends import are_breaks, break_crossings, find_parting_way, list_fewest
from interlace.refusals import NOT_RIGHT, NOT_SO, NOT_THERE, TOO_LONG, WRONG_LIST, WRONG_SIGN
from interlace.refusals import are_bits, find_crossing_refusal, find_list_refusal, find_marks_refusal
from interlace.refusals import find_place_refusal, find_refusal, find_strand_refusal, find_weave_refusal, is_too_long
from interlace.shape import CROSSING, HIGH_AT, MOST_SIDE, MOST_SIGN, PLACES_AT, WIDE_AT
from interlace.shape import count_places, find_fault, find_place, find_square_beyond, find_squares, is_inside
from interlace.tracing import count_strands, list_courses, list_strands
from interlace.weaves import find_over, find_wrong_strand, make_weave, mend_weave


def tell_list(numbers):
    """Give how many numbers there are, then the numbers."""
    return [len(numbers)] + numbers


def judge(b):
    """Answer 0 for a right panel's bytes, else -6, the kind of the first fault and its place."""
    # Length is told first, so that a fault is never told of too many bytes.
    if is_too_long(b):
        return [TOO_LONG]
    fault = find_fault(b)
    if fault is None:
        return [0]
    return [NOT_RIGHT, fault[0], fault[1]]


def size(b):
    """Answer 0, wide, high, how many places, how many crossings."""
    refusal = find_refusal(b)
    if refusal < 0:
        return [refusal]
    wide = b[WIDE_AT]
    high = b[HIGH_AT]
    return [0, wide, high, count_places(wide, high), b[PLACES_AT:].count(CROSSING)]


def place(x, y, k, b):
    """Answer 0, the place on side k of square (x, y), what stands there, the square beyond."""
    refusal = find_refusal(b)
    if refusal < 0:
        return [refusal]
    wide = b[WIDE_AT]
    high = b[HIGH_AT]
    if k > MOST_SIDE or not is_inside(x, y, wide, high):
        return [NOT_THERE]
    beyond = find_square_beyond(x, y, k, wide, high)
    if beyond is None:
        return [NOT_SO]
    p = find_place(x, y, k, wide, high)
    return [0, p, b[PLACES_AT + p], beyond]


def squares(p, b):
    """Answer 0, the left or upper square at place p, the other."""
    refusal = find_place_refusal(p, b)
    if refusal < 0:
        return [refusal]
    pair = find_squares(p, b[WIDE_AT], b[HIGH_AT])
    return [0, pair[0], pair[1]]


def set_it(p, z, b):
    """Answer how many bytes the panel has with z at place p, then these bytes."""
    refusal = find_refusal(b)
    if refusal < 0:
        return [refusal]
    if z > MOST_SIGN:
        return [WRONG_SIGN]
    if p >= count_places(b[WIDE_AT], b[HIGH_AT]):
        return [NOT_THERE]
    changed = list(b)
    changed[PLACES_AT + p] = z
    return tell_list(changed)


def joined(e, b):
    """Answer the end that end e is joined with."""
    refusal = find_refusal(b)
    if refusal < 0:
        return [refusal]
    if e >= count_ends(b):
        return [NOT_THERE]
    return [find_joined(e, b)]


def print_of(b):
    """Answer how many bytes the drawing of the panel has, then these bytes."""
    refusal = find_refusal(b)
    if refusal < 0:
        return [refusal]
    return tell_list(draw(b))


def read(t):
    """Answer how many bytes the panel drawn has, then these bytes; or -6 and the place of the drawing's fault."""
    if is_too_long(t):
        return [TOO_LONG]
    fault = find_drawing_fault(t)
    if fault is not None:
        return [NOT_RIGHT, fault]
    return tell_list(read_panel(t))


def strands(b):
    """Answer how many strands there are."""
    refusal = find_refusal(b)
    if refusal < 0:
        return [refusal]
    return [count_strands(b)]


def strand_of(i, b):
    """Answer the strand of piece i."""
    refusal = find_refusal(b)
    if refusal < 0:
        return [refusal]
    if i >= count_pieces(b):
        return [NOT_THERE]
    return [list_strands(b)[i]]


def strand(k, b):
    """Answer 0, strand k's least piece, how many pieces it has, how many crossings with others, with itself."""
    refusal = find_strand_refusal(k, b)
    if refusal < 0:
        return [refusal]
    entered = list_courses(b)[k]
    # A course begins at the first end of the strand's least piece.
    return [0, entered[0] // 2, len(entered), count_crossings_with_others(k, b), len(list_meetings(k, k, b))]


def course(k, b):
    """Answer how many pieces strand k has, then the ends at which they are entered along its course."""
    refusal = find_strand_refusal(k, b)
    if refusal < 0:
        return [refusal]
    return tell_list(list_courses(b)[k])


def crossed(p, b):
    """Answer 0, the two strands of the crossing at place p."""
    refusal = find_crossing_refusal(p, b)
    if refusal < 0:
        return [refusal]
    pair = find_crossed(p, b)
    return [0, pair[0], pair[1]]


def meets(i, j, b):
    """Answer at how many places strands i and j cross, then these places."""
    refusal = find_strand_refusal(max(i, j), b)
    if refusal < 0:
        return [refusal]
    return tell_list(list_meetings(i, j, b))


def parts(b):
    """Answer how many parts the crossings have."""
    refusal = find_refusal(b)
    if refusal < 0:
        return [refusal]
    return [count_parts(b)]


def part(p, b):
    """Answer the part of the crossing at place p."""
    refusal = find_crossing_refusal(p, b)
    if refusal < 0:
        return [refusal]
    return [list_parts(b)[list_crossings(b).index(p)]]


def weave(b, c):
    """Answer how many bits the weave has that is made by the choice c, then these bits."""
    refusal = find_list_refusal(b, c)
    if refusal < 0:
        return [refusal]
    if not are_bits(c, count_parts(b)):
        return [WRONG_LIST]
    return tell_list(make_weave(b, c))


def turns(b, w):
    """Answer 1 if the weave w takes turns, else 0 and what is wrong first: the strand, two crossings."""
    refusal = find_weave_refusal(b, w)
    if refusal < 0:
        return [refusal]
    wrong = find_wrong_strand(b, w)
    if wrong is None:
        return [1]
    return [0, wrong[0], wrong[1], wrong[2]]


def over(p, b, w):
    """Answer the strand that is over at place p in the weave w."""
    refusal = find_weave_refusal(b, w)
    if refusal < 0:
        return [refusal]
    refusal = find_crossing_refusal(p, b)
    if refusal < 0:
        return [refusal]
    return [find_over(p, b, w)]


def mend(b, w):
    """Answer how many bits of the weave w are changed when it is mended, then the mended weave's bits."""
    refusal = find_weave_refusal(b, w)
    if refusal < 0:
        return [refusal]
    mended = mend_weave(b, w)
    changed = [bit for bit, other in zip(w, mended) if bit != other]
    return [len(changed)] + mended


def free(b):
    """Answer how many marks are free."""
    refusal = find_refusal(b)
    if refusal < 0:
        return [refusal]
    return [count_free(b)]


def marks(b, s):
    """Answer how many bits the marks of the set s of strands have, then these bits."""
    refusal = find_list_refusal(b, s)
    if refusal < 0:
        return [refusal]
    if not are_bits(s, count_strands(b)):
        return [WRONG_LIST]
    return tell_list(mark_set(b, s))


def marked(b, m):
    """Answer 1 if the marks m are right, else 0 and what is wrong first: the kind, the square or place."""
    refusal = find_marks_refusal(b, m)
    if refusal < 0:
        return [refusal]
    wrong = find_wrong_mark(b, m)
    if wrong is None:
        return [1]
    return [0, wrong[0], wrong[1]]


def set_of(b, m):
    """Answer how many strands there are, then for each 1 if it is of the set that the marks m mark, else 0."""
    refusal = find_marks_refusal(b, m)
    if refusal < 0:
        return [refusal]
    if find_wrong_mark(b, m) is not None:
        return [NOT_SO]
    return tell_list(list_members(b, m))


def plus(b, m, k):
    """Answer how many bits the marks m and k added have, then these bits."""
    # The second list's length is refused ahead of all that else is wrong with the first.
    if is_too_long(k):
        return [TOO_LONG]
    for one in (m, k):
        refusal = find_marks_refusal(b, one)
        if refusal < 0:
            return [refusal]
    if find_wrong_mark(b, m) is not None or find_wrong_mark(b, k) is not None:
        return [NOT_SO]
    return tell_list(add_marks(m, k))


def groups(b):
    """Answer how many groups the strands have."""
    refusal = find_refusal(b)
    if refusal < 0:
        return [refusal]
    return [count_groups(b)]


def group(k, b):
    """Answer the group of strand k."""
    refusal = find_strand_refusal(k, b)
    if refusal < 0:
        return [refusal]
    return [list_groups(b)[k]]


def fewest(n, b):
    """Answer how many crossings are the fewest for n strands, then their places."""
    refusal = find_refusal(b)
    if refusal < 0:
        return [refusal]
    if n < count_groups(b):
        return [NOT_SO]
    return tell_list(list_fewest(n, b))


def broken(b, l):
    """Answer how many bytes the panel has with the breaks l (of each its place, its way), then these bytes."""
    refusal = find_list_refusal(b, l)
    if refusal < 0:
        return [refusal]
    if not are_breaks(b, l):
        return [WRONG_LIST]
    return tell_list(break_crossings(b, l))


def parting(p, b):
    """Answer the parting way of the crossing at place p, or 0 if it is of two strands."""
    refusal = find_crossing_refusal(p, b)
    if refusal < 0:
        return [refusal]
    return [find_parting_way(p, b)]
