"""What the tests share: panels, places in the document's order, and lists that can't be changed."""

HEAD = [0x50, 0x4C, 0x50, 0x31]
MOST_NUMBER = 4294967295
ALL_SIZES = [(wide, high) for high in range(1, 9) for wide in range(1, 9)]
SOME_SIZES = [(1, 1), (1, 8), (8, 1), (8, 8), (2, 2), (3, 2), (2, 3), (5, 4), (7, 8)]


def listed_places(wide, high):
    """The two squares at each place, written down one by one as the document lists them."""
    found = []
    for y in range(high):
        for x in range(wide - 1):
            found.append((y * wide + x, y * wide + x + 1))
    for y in range(high - 1):
        for x in range(wide):
            found.append((y * wide + x, (y + 1) * wide + x))
    return found


def signs(count, start=0):
    """Crossings, breaks along and breaks across in an order that repeats only after 7 places."""
    turn = [0, 1, 2, 2, 0, 1, 0]
    return [turn[(start + i) % len(turn)] for i in range(count)]


def panel(wide, high, start=0):
    return HEAD + [wide, high] + signs(len(listed_places(wide, high)), start)


def bad_panels():
    """Bytes of 1,024 at most that are no right panel's."""
    right = panel(3, 2)
    return [
        [],
        right[:5],
        [0x51] + right[1:],
        HEAD + [0, 2],
        HEAD + [3, 9],
        right[:-1],
        right + [0],
        right[:-1] + [3],
        right + [0] * (1024 - len(right)),
    ]


def long_bytes():
    """Bytes of more than 1,024, some of which begin as a right panel does."""
    right = panel(8, 8)
    return [
        right + [0] * (1025 - len(right)),
        right + [0] * (2000 - len(right)),
        [0] * 1025,
        [255] * 2000,
    ]


def plain(answer):
    """Whether an answer is a list of ints, none of them True or False."""
    return type(answer) is list and all(type(number) is int for number in answer)


class Kept(list):
    """A list that fails when it is changed, even if only for a while."""

    def refuse(self, *args, **kwargs):
        raise AssertionError("a list that was handed in was changed")

    __setitem__ = __delitem__ = __iadd__ = __imul__ = refuse
    append = clear = extend = insert = pop = remove = reverse = sort = refuse
