"""Marks of squares and of breaks across: right ones, and those of a set of strands."""

from interlace.crossings import find_pair, list_places_with
from interlace.ends import PIECES, find_end
from interlace.shape import ACROSS, ALONG, CROSSING, HIGH_AT, PLACES_AT, WIDE_AT
from interlace.shape import count_squares, find_place, find_squares
from interlace.tracing import list_courses, list_strands

LEFT = 3

# By piece of a square: how far the corner that it cuts off lies to the right, and down.
CORNERS = ((1, 0), (1, 1), (0, 1), (0, 0))


def count_marks(b):
    """Count what can be marked: squares and breaks across."""
    return count_squares(b) + len(list_places_with(ACROSS, b))


def list_changes(b, m):
    """Give for each place how the marks m change there: 1 if the side changes, else 0."""
    of_breaks = dict(zip(list_places_with(ACROSS, b), m[count_squares(b):]))
    changes = []
    for p, z in enumerate(b[PLACES_AT:]):
        pair = find_squares(p, b[WIDE_AT], b[HIGH_AT])
        if z == CROSSING:
            changes.append(m[pair[0]] ^ m[pair[1]])
        elif z == ACROSS:
            changes.append(of_breaks[p])
        else:
            changes.append(0)
    return changes


def add_around(b, m):
    """Give for each square the changes of its sides added: 1 if an odd number change, else 0."""
    around = [0] * count_squares(b)
    for p, change in enumerate(list_changes(b, m)):
        for s in find_squares(p, b[WIDE_AT], b[HIGH_AT]):
            around[s] = around[s] ^ change
    return around


def add_beside(b, m):
    """Give for each break across the marks of its squares added: 1 if they are marked otherwise, else 0."""
    beside = []
    for p in list_places_with(ACROSS, b):
        pair = find_squares(p, b[WIDE_AT], b[HIGH_AT])
        beside.append(m[pair[0]] ^ m[pair[1]])
    return beside


def find_wrong_mark(b, m):
    """Give what is wrong first with the marks m, the kind and the square or place, or None if they are right."""
    for s, odd in enumerate(add_around(b, m)):
        if odd == 1:
            return (1, s)
    for p, unlike in zip(list_places_with(ACROSS, b), add_beside(b, m)):
        if unlike == 1:
            return (2, p)
    return None


def list_powers(count):
    """Give so many numbers, each a binary digit of its own."""
    powers = []
    power = 1
    while len(powers) < count:
        powers.append(power)
        power = 2 * power
    return powers


def count_independent(sums):
    """Count how many of the sums are no sum of others that are counted."""
    counted = []
    for whole in sums:
        rest = whole
        for known in counted:
            rest = min(rest, rest ^ known)
        if rest > 0:
            counted.append(rest)
    return len(counted)


def count_free(b):
    """Count the free marks, without following a strand."""
    # With a digit for each mark the sums tell which marks they add, and each independent one binds one mark.
    digits = list_powers(count_marks(b))
    return len(digits) - count_independent(add_around(b, digits) + add_beside(b, digits))


def step_over(x, y, members, b):
    """Give 1 if one comes over an odd number of strands of the set at the left side of square (x, y), else 0."""
    wide = b[WIDE_AT]
    behind = members[find_end(y * wide + x, LEFT, 0) // 2]
    if x == 0:
        return behind
    p = find_place(x, y, LEFT, wide, b[HIGH_AT])
    pair = find_pair(p, members, b)
    if b[PLACES_AT + p] == CROSSING:
        return pair[0] ^ pair[1]
    if b[PLACES_AT + p] == ALONG:
        return pair[0] ^ behind
    return 0


def mark_squares(members, b):
    """Give the marks of the squares, if members tells of each piece whether it is of the set."""
    marked = []
    for y in range(b[HIGH_AT]):
        mark = 0
        for x in range(b[WIDE_AT]):
            mark = mark ^ step_over(x, y, members, b)
            marked.append(mark)
    return marked


def mark_breaks(members, b):
    """Give the marks of the breaks across, if members tells of each piece whether it is of the set."""
    marked = []
    for p in list_places_with(ACROSS, b):
        pair = find_pair(p, members, b)
        marked.append(pair[0] ^ pair[1])
    return marked


def mark_set(b, s):
    """Give the marks of the set s of strands."""
    members = [s[k] for k in list_strands(b)]
    return mark_squares(members, b) + mark_breaks(members, b)


def mark_corner(x, y, changes, b):
    """Give 1 if the corner x squares from the left and y from above is marked, else 0."""
    wide = b[WIDE_AT]
    if x == 0 or x == wide:
        return 0
    return sum([changes[find_place(x, row, LEFT, wide, b[HIGH_AT])] for row in range(y)]) % 2


def list_members(b, m):
    """Give for each strand 1 if it is of the set that the right marks m mark, else 0."""
    changes = list_changes(b, m)
    members = []
    for course in list_courses(b):
        i = course[0] // 2
        s = i // PIECES
        corner = CORNERS[i % PIECES]
        x = s % b[WIDE_AT] + corner[0]
        y = s // b[WIDE_AT] + corner[1]
        members.append(m[s] ^ mark_corner(x, y, changes, b))
    return members


def add_marks(m, k):
    """Give the marks m and k added: what is marked in just one of both."""
    return [mark ^ other for mark, other in zip(m, k)]
