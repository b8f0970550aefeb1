"""The shape of a panel: how its bytes are judged, how its squares and places are numbered."""

MARK = (80, 76, 80, 49)
WIDE_AT = 4
HIGH_AT = 5
PLACES_AT = 6
MOST_SQUARES = 8
MOST_SIGN = 2
MOST_SIDE = 3

CROSSING = 0
ALONG = 1
ACROSS = 2

# By side (upper, right, lower, left): how far the square beyond lies to the right, and down.
STEPS = ((0, -1), (1, 0), (0, 1), (-1, 0))


def count_uprights(wide, high):
    """Count the places between squares of one row."""
    return (wide - 1) * high


def count_squares(b):
    """Count the squares of a right panel."""
    return b[WIDE_AT] * b[HIGH_AT]


def count_places(wide, high):
    """Count all the places of a panel."""
    return count_uprights(wide, high) + wide * (high - 1)


def find_fault(b):
    """Give the kind and the place of the first fault of b, or None if b is a right panel's bytes."""
    if len(b) < PLACES_AT or tuple(b[:WIDE_AT]) != MARK:
        return (1, 0)
    for at in (WIDE_AT, HIGH_AT):
        if b[at] < 1 or b[at] > MOST_SQUARES:
            return (2, at)
    if len(b) != PLACES_AT + count_places(b[WIDE_AT], b[HIGH_AT]):
        return (1, WIDE_AT)
    for at in range(PLACES_AT, len(b)):
        if b[at] > MOST_SIGN:
            return (3, at)
    return None


def is_inside(x, y, wide, high):
    """Tell whether (x, y) is a square of the panel."""
    return 0 <= x < wide and 0 <= y < high


def find_square_beyond(x, y, k, wide, high):
    """Give the square beyond side k of square (x, y), or None at the border."""
    step = STEPS[k]
    far_x = x + step[0]
    far_y = y + step[1]
    if not is_inside(far_x, far_y, wide, high):
        return None
    return far_y * wide + far_x


def find_place(x, y, k, wide, high):
    """Give the place on side k of square (x, y), where that side is not at the border."""
    # A place is numbered by its left or upper square, which may be the one beyond.
    step = STEPS[k]
    left = min(x, x + step[0])
    upper = min(y, y + step[1])
    if step[1] == 0:
        return upper * (wide - 1) + left
    return count_uprights(wide, high) + upper * wide + left


def find_squares(p, wide, high):
    """Give the left or upper square at place p, then the other."""
    uprights = count_uprights(wide, high)
    if p < uprights:
        # A row has one upright place fewer than it has squares.
        left = p // (wide - 1) * wide + p % (wide - 1)
        return (left, left + 1)
    upper = p - uprights
    return (upper, upper + wide)
