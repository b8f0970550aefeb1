"""Drawings of panels: how they are drawn, and how they are read."""

from interlace.shape import HIGH_AT, MARK, MOST_SQUARES, PLACES_AT, WIDE_AT
from interlace.shape import count_uprights

LINE_END = 10
BLANK = 32
SQUARE = 111

# By what stands at a place (a crossing, a break along, a break across): x | - and x - |
UPRIGHT_SIGNS = (120, 124, 45)
LEVEL_SIGNS = (120, 45, 124)


def draw_row(y, b):
    """Draw row y of squares with the upright places between them."""
    wide = b[WIDE_AT]
    first = PLACES_AT + y * (wide - 1)
    line = [SQUARE]
    for z in b[first:first + wide - 1]:
        line.append(UPRIGHT_SIGNS[z])
        line.append(SQUARE)
    line.append(LINE_END)
    return line


def draw_levels(y, b):
    """Draw the level places below row y of squares."""
    wide = b[WIDE_AT]
    first = PLACES_AT + count_uprights(wide, b[HIGH_AT]) + y * wide
    line = []
    for z in b[first:first + wide]:
        # Blanks stand between signs alone, so none ahead of the first.
        if len(line) > 0:
            line.append(BLANK)
        line.append(LEVEL_SIGNS[z])
    line.append(LINE_END)
    return line


def draw(b):
    """Give the drawing of a right panel."""
    drawing = draw_row(0, b)
    for y in range(1, b[HIGH_AT]):
        drawing.extend(draw_levels(y - 1, b))
        drawing.extend(draw_row(y, b))
    return drawing


def measure_wide(t):
    """Give how many squares the first line has, if a drawing begins as t does."""
    # Of a faulty first line any width will do under which its first fault is no other.
    length = t.index(LINE_END) if LINE_END in t else len(t)
    return min(length // 2 + 1, MOST_SQUARES)


def list_signs(at, wide):
    """Give the signs that may stand at a place of a drawing so wide."""
    line = at // (2 * wide)
    column = at % (2 * wide)
    if column == 2 * wide - 1:
        return (LINE_END,)
    if line % 2 == 0:
        return (SQUARE,) if column % 2 == 0 else UPRIGHT_SIGNS
    return LEVEL_SIGNS if column % 2 == 0 else (BLANK,)


def find_drawing_fault(t):
    """Give the first place of t at which no drawing goes on, or None if t is a drawing."""
    wide = measure_wide(t)
    most_lines = 2 * MOST_SQUARES - 1
    for at, sign in enumerate(t):
        if at == 2 * wide * most_lines or sign not in list_signs(at, wide):
            return at
    # A drawing ends with a line of squares, so after an odd number of lines.
    if len(t) % (2 * wide) > 0 or len(t) // (2 * wide) % 2 == 0:
        return len(t)
    return None


def read_panel(t):
    """Give the bytes of the panel that the drawing t shows."""
    wide = measure_wide(t)
    high = (len(t) // (2 * wide) + 1) // 2
    uprights = []
    levels = []
    for at, sign in enumerate(t):
        signs = list_signs(at, wide)
        if signs == UPRIGHT_SIGNS:
            uprights.append(signs.index(sign))
        if signs == LEVEL_SIGNS:
            levels.append(signs.index(sign))
    return list(MARK) + [wide, high] + uprights + levels
