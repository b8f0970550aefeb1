"""What the tests share: panels, what stands in them told anew from the document, and lists that can't be changed."""

import itertools

HEAD = [0x50, 0x4C, 0x50, 0x31]
MOST_NUMBER = 4294967295
ALL_SIZES = [(wide, high) for high in range(1, 9) for wide in range(1, 9)]
SOME_SIZES = [(1, 1), (1, 8), (8, 1), (8, 8), (2, 2), (3, 2), (2, 3), (5, 4), (7, 8)]


def listed_places(wide, high):
    """The two squares at each place, written down one by one as the document lists them."""
    found = []
    for y in range(high):
        for x in range(wide - 1):
            found.append((y * wide + x, y * wide + x + 1))
    for y in range(high - 1):
        for x in range(wide):
            found.append((y * wide + x, (y + 1) * wide + x))
    return found


def signs(count, start=0):
    """Crossings, breaks along and breaks across in an order that repeats only after 7 places."""
    turn = [0, 1, 2, 2, 0, 1, 0]
    return [turn[(start + i) % len(turn)] for i in range(count)]


def panel(wide, high, start=0):
    return HEAD + [wide, high] + signs(len(listed_places(wide, high)), start)


def mixed(wide, high, seed):
    """A panel without a pattern; by the seed crossings are as many as other breaks, more, most, or few."""
    turn = [[0, 1, 2], [0, 0, 1, 2], [0, 0, 0, 0, 0, 1, 2], [0, 1, 1, 2]][seed % 4]
    state = seed * 7919 + wide * 101 + high * 13
    found = []
    for _ in listed_places(wide, high):
        state = (state * 1103515245 + 12345) % 2147483648
        found.append(turn[state // 65536 % len(turn)])
    return HEAD + [wide, high] + found


def uniform(wide, high, sign):
    return HEAD + [wide, high] + [sign] * len(listed_places(wide, high))


def mixed_panels(seeds=4):
    """Panels of every size, with a pattern and without one."""
    found = []
    for wide, high in ALL_SIZES:
        found.append(panel(wide, high))
        found.extend(mixed(wide, high, seed) for seed in range(seeds))
    return found


def uniform_panels():
    """Of every size the panels with crossings alone, with breaks along alone, with breaks across alone."""
    return [uniform(wide, high, sign) for wide, high in ALL_SIZES for sign in (0, 1, 2)]


def small_panels(most_places=4):
    """All panels of so few places."""
    found = []
    for wide, high in ALL_SIZES:
        count = len(listed_places(wide, high))
        if count <= most_places:
            found.extend(HEAD + [wide, high] + list(row) for row in itertools.product((0, 1, 2), repeat=count))
    return found


def bad_panels():
    """Bytes of 1,024 at most that are no right panel's."""
    right = panel(3, 2)
    return [
        [],
        right[:5],
        [0x51] + right[1:],
        HEAD + [0, 2],
        HEAD + [3, 9],
        right[:-1],
        right + [0],
        right[:-1] + [3],
        right + [0] * (1024 - len(right)),
    ]


def long_bytes():
    """Bytes of more than 1,024, some of which begin as a right panel does."""
    right = panel(8, 8)
    return [
        right + [0] * (1025 - len(right)),
        right + [0] * (2000 - len(right)),
        [0] * 1025,
        [255] * 2000,
    ]


def told_once(tell):
    """What is told of a panel, found out once: many tests ask it of the same panels, and none changes it."""
    told = {}

    def ask(b):
        if tuple(b) not in told:
            told[tuple(b)] = tell(b)
        return told[tuple(b)]

    return ask


def end_points(e, wide):
    """Where end e lies and where the other end of its piece lies, in halves of a square."""
    middles = [(1, 0), (2, 1), (1, 2), (0, 1)]
    s, d, last = e // 8, e % 8 // 2, e % 2
    points = [(s % wide * 2 + x, s // wide * 2 + y) for x, y in (middles[d], middles[(d + 1) % 4])]
    return points[last], points[1 - last]


def place_points(wide, high):
    """The places by the points they lie at, in halves of a square."""
    return {
        (first % wide + other % wide + 1, first // wide + other // wide + 1): p
        for p, (first, other) in enumerate(listed_places(wide, high))
    }


def fits(e, f, sign, wide):
    """Whether two ends that lie at one point are joined there, by how their pieces run and not by their numbers."""
    here, before = end_points(e, wide)
    _, behind = end_points(f, wide)
    straight = (before[0] + behind[0], before[1] + behind[1]) == (2 * here[0], 2 * here[1])
    if sign == 1:
        return e != f and e // 8 == f // 8
    return e // 8 != f // 8 and straight == (sign == 0)


@told_once
def joined_ends(b):
    """The end that each end is joined with, by the ends."""
    wide, high = b[4], b[5]
    places = place_points(wide, high)
    at_point = {}
    for e in range(8 * wide * high):
        at_point.setdefault(end_points(e, wide)[0], []).append(e)
    found = {}
    for point, ends in at_point.items():
        sign = b[6 + places[point]] if point in places else 1
        for e in ends:
            (found[e],) = [f for f in ends if fits(e, f, sign, wide)]
    return found


def hung_together(count, ties):
    """The sets of the numbers below count that hang together by ties, in the order of their least ones."""
    beside = {i: set() for i in range(count)}
    for i, j in ties:
        beside[i].add(j)
        beside[j].add(i)
    found = []
    left = set(range(count))
    while left:
        together = set()
        reached = {min(left)}
        while reached:
            together |= reached
            reached = set().union(*(beside[i] for i in reached)) - together
        found.append(together)
        left -= together
    return found


@told_once
def strand_pieces(b):
    """The set of pieces of each strand, by the strands' numbers."""
    return hung_together(4 * b[4] * b[5], [(e // 2, f // 2) for e, f in joined_ends(b).items()])


@told_once
def crossed_strands(b):
    """The two strands of each crossing, by its place, found by where the ends of the square before it lie."""
    wide, high = b[4], b[5]
    of_piece = {i: number for number, pieces in enumerate(strand_pieces(b)) for i in pieces}
    points = {p: point for point, p in place_points(wide, high).items()}
    found = {}
    for p, (first, _) in enumerate(listed_places(wide, high)):
        if b[6 + p] == 0:
            begins, ends = [
                i for last in (0, 1) for i in range(4 * first, 4 * first + 4)
                if end_points(2 * i + last, wide)[0] == points[p]
            ]
            found[p] = (of_piece[begins], of_piece[ends])
    return found


@told_once
def crossing_parts(b):
    """The places of each part's crossings, by the parts' numbers."""
    pairs = crossed_strands(b)
    places = sorted(pairs)
    ties = [
        (i, j) for i, p in enumerate(places) for j, q in enumerate(places) if set(pairs[p]) & set(pairs[q])
    ]
    return [sorted(places[i] for i in together) for together in hung_together(len(places), ties)]


@told_once
def strand_groups(b):
    """The set of strands of each group, by the groups' numbers."""
    return hung_together(len(strand_pieces(b)), crossed_strands(b).values())


@told_once
def walked_passes(b):
    """Of each strand, by its number, the crossings it passes: the place, and 1 if left at a piece's end, else 0."""
    wide, high = b[4], b[5]
    joined = joined_ends(b)
    places = {point: p for point, p in place_points(wide, high).items() if b[6 + p] == 0}
    found = []
    for pieces in strand_pieces(b):
        passes = []
        entered = 2 * min(pieces)
        for _ in pieces:
            point = end_points(entered ^ 1, wide)[0]
            if point in places:
                passes.append((places[point], (entered ^ 1) % 2))
            entered = joined[entered ^ 1]
        found.append(passes)
    return found


def all_bits(count):
    """All lists of so many bits."""
    return [list(row) for row in itertools.product((0, 1), repeat=count)]


def some_bits(count, seed):
    """So many bits without a pattern."""
    state = seed * 7919 + count
    found = []
    for _ in range(count):
        state = (state * 1103515245 + 12345) % 2147483648
        found.append(state // 65536 % 2)
    return found


def wrong_bits(count):
    """Lists that are not so many numbers, each 0 or 1."""
    found = [[0] * (count + 1), [1] * (count + 1), [0] * 1024, [2] * (count + 1)]
    if count > 0:
        found += [[0] * (count - 1), [1] * (count - 1)]
    for at in {0, count // 2, count - 1} if count > 0 else ():
        for number in (2, 3, 256, MOST_NUMBER):
            found.append([0] * at + [number] + [1] * (count - at - 1))
    return found


def across_places(b):
    """The places of the breaks across, rising."""
    return [p for p in range(len(b) - 6) if b[6 + p] == 2]


def plain(answer):
    """Whether an answer is a list of ints, none of them True or False."""
    return type(answer) is list and all(type(number) is int for number in answer)


# Of each call its arguments, and rows of numbers to hand in, of which some are wrong.
CALLS = {
    "judge": ("b", [()]),
    "size": ("b", [()]),
    "place": ("xykb", [(0, 0, 1), (0, 0, 2), (1, 1, 0), (1, 1, 3), (0, 0, 0), (8, 8, 4), (MOST_NUMBER,) * 3]),
    "squares": ("pb", [(0,), (1,), (6,), (111,), (MOST_NUMBER,)]),
    "set_it": ("pzb", [(0, 0), (0, 1), (1, 2), (6, 0), (111, 2), (0, 3), (MOST_NUMBER, 2), (MOST_NUMBER,) * 2]),
    "joined": ("eb", [(0,), (1,), (7,), (8,), (511,), (512,), (MOST_NUMBER,)]),
    "print_of": ("b", [()]),
    "read": ("t", [()]),
    "strands": ("b", [()]),
    "strand_of": ("ib", [(0,), (3,), (4,), (255,), (256,), (MOST_NUMBER,)]),
    "strand": ("kb", [(0,), (1,), (5,), (64,), (MOST_NUMBER,)]),
    "course": ("kb", [(0,), (1,), (5,), (64,), (MOST_NUMBER,)]),
    "crossed": ("pb", [(0,), (1,), (2,), (6,), (111,), (112,), (MOST_NUMBER,)]),
    "meets": ("ijb", [(0, 0), (0, 1), (1, 0), (2, 2), (0, 64), (64, 0), (MOST_NUMBER, MOST_NUMBER)]),
    "parts": ("b", [()]),
    "part": ("pb", [(0,), (1,), (2,), (6,), (111,), (112,), (MOST_NUMBER,)]),
    "weave": ("bc", [()]),
    "turns": ("bw", [()]),
    "over": ("pbw", [(0,), (1,), (2,), (6,), (111,), (112,), (MOST_NUMBER,)]),
    "mend": ("bw", [()]),
    "free": ("b", [()]),
    "marks": ("bs", [()]),
    "marked": ("bm", [()]),
    "set_of": ("bm", [()]),
    "plus": ("bmk", [()]),
    "groups": ("b", [()]),
    "group": ("kb", [(0,), (1,), (5,), (64,), (MOST_NUMBER,)]),
    "fewest": ("nb", [(0,), (1,), (2,), (5,), (64,), (MOST_NUMBER,)]),
    "broken": ("bl", [()]),
    "parting": ("pb", [(0,), (1,), (2,), (6,), (111,), (112,), (MOST_NUMBER,)]),
}

WRONG_LISTS = [[], [2], [0, 1, MOST_NUMBER], [MOST_NUMBER] * 1024]
LONG_LISTS = [[0] * 1025, [1] * 2000, [MOST_NUMBER] * 1025]


def fitting_lists(b):
    """Lists that some call takes beside a right panel's bytes: bits of just the right lengths, and breaks."""
    crossings = crossed_strands(b)
    lengths = {len(crossings), len(crossing_parts(b)), len(strand_pieces(b)), b[4] * b[5] + b[6:].count(2)}
    breaks = [number for p in crossings for number in (p, 1 + p % 2)]
    return [[i // 2 % 2 for i in range(length)] for length in sorted(lengths)] + [breaks]


def handed_rows(name, b, lists):
    """All that can be handed in to a call with b: each row of numbers, then b, then of these lists each it takes."""
    arguments, rows = CALLS[name]
    count = len(arguments) - len(rows[0]) - 1
    for row in rows:
        for beside in itertools.product(lists, repeat=count):
            yield [*row, b, *beside]


def drawing(b):
    """The drawing of a panel, put together from texts."""
    wide, high = b[4], b[5]
    uprights = ["x|-"[z] for z in b[6:6 + (wide - 1) * high]] + [""]
    levels = ["x-|"[z] for z in b[6 + (wide - 1) * high:]]
    lines = []
    for y in range(high):
        if y > 0:
            lines.append(" ".join(levels[(y - 1) * wide:y * wide]))
        row = uprights[y * (wide - 1):(y + 1) * (wide - 1)]
        lines.append("o" + "".join(sign + "o" for sign in row))
    return list("".join(line + "\n" for line in lines).encode("ascii"))


class Kept(list):
    """A list that fails when it is changed, even if only for a while."""

    def refuse(self, *args, **kwargs):
        raise AssertionError("a list that was handed in was changed")

    __setitem__ = __delitem__ = __iadd__ = __imul__ = refuse
    append = clear = extend = insert = pop = remove = reverse = sort = refuse
