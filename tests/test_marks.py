"""Points 21 to 25: free, marks, marked, set_of, plus."""

import unittest

from interlace.panels import free, marked, marks, plus, set_of, strands
from helpers import (
    ALL_SIZES, HEAD, LONG_LISTS, across_places, all_bits, bad_panels, listed_places, mixed, mixed_panels, small_panels,
    some_bits, strand_pieces, uniform, uniform_panels, wrong_bits,
)

PANELS = mixed_panels() + uniform_panels()
# Four crossings of two strands; four breaks across, with a strand along the border and one round the middle.
RING = HEAD + [2, 2, 0, 0, 0, 0]
CORNER = HEAD + [2, 2, 2, 2, 2, 2]


def count_of_marks(b):
    return b[4] * b[5] + len(across_places(b))


def pieces_of(b, s):
    return set().union(*(pieces for pieces, bit in zip(strand_pieces(b), s) if bit == 1))


def marks_of(b, s, upright=True):
    """The marks of a set of strands; the squares' from the left border, or else from the upper one.

    Round a square's middle either way leads over as many strands of the set, or over an even number more or less.
    """
    wide, high = b[4], b[5]
    chosen = pieces_of(b, s)
    place_of = {pair: p for p, pair in enumerate(listed_places(wide, high))}
    # The pieces of a square at the side where one leaves it, and one of those at the side where one comes into it.
    left, entered = ((0, 1), 3) if upright else ((1, 2), 0)
    found = []
    for square in range(wide * high):
        x, y = square % wide, square // wide
        row = [y * wide + i for i in range(x + 1)] if upright else [i * wide + x for i in range(y + 1)]
        met = [4 * row[0] + entered]
        for near, far in zip(row, row[1:]):
            sign = b[6 + place_of[near, far]]
            if sign == 0:
                met += [4 * near + d for d in left]
            elif sign == 1:
                met += [4 * near + left[0], 4 * far + entered]
        found.append(sum(i in chosen for i in met) % 2)
    for p in across_places(b):
        first, other = listed_places(wide, high)[p]
        passing = (0, 1) if other == first + 1 and p < (wide - 1) * high else (1, 2)
        found.append(sum(4 * first + d in chosen for d in passing) % 2)
    return found


def wrong_first(b, m):
    """The answer of marked, by the document's words."""
    pairs = listed_places(b[4], b[5])
    across = dict(zip(across_places(b), m[b[4] * b[5]:]))
    changing = [
        p for p, (one, two) in enumerate(pairs)
        if (b[6 + p] == 0 and m[one] + m[two] == 1) or (b[6 + p] == 2 and across[p] == 1)
    ]
    for square in range(b[4] * b[5]):
        if sum(square in pairs[p] for p in changing) % 2 == 1:
            return [0, 1, square]
    for p in across:
        if m[pairs[p][0]] != m[pairs[p][1]]:
            return [0, 2, p]
    return [1]


def flipped(m, at):
    return m[:at] + [1 - m[at]] + m[at + 1:]


def some_sets(b, most=16):
    """Sets of strands: all of them where there are few, else the empty, the whole one, and some between."""
    count = len(strand_pieces(b))
    if 1 << count <= most:
        return all_bits(count)
    return [[0] * count, [1] * count] + [some_bits(count, seed) for seed in range(4)]


class Free(unittest.TestCase):
    def test_written_out(self):
        self.assertEqual(free(HEAD + [1, 1]), [1])
        self.assertEqual(free(HEAD + [2, 1, 0]), [1])
        self.assertEqual(free(HEAD + [2, 1, 1]), [2])
        self.assertEqual(free(HEAD + [2, 1, 2]), [1])
        self.assertEqual(free(RING), [2])
        self.assertEqual(free(CORNER), [2])

    def test_there_are_just_2_to_the_n_right_marks(self):
        for b in small_panels() + [uniform(3, 2, 0), mixed(3, 2, 0), mixed(2, 3, 1), mixed(3, 3, 2)]:
            right = [m for m in all_bits(count_of_marks(b)) if wrong_first(b, m) == [1]]
            self.assertEqual(len(right), 2 ** free(b)[0], b)

    def test_as_many_as_strands(self):
        for b in PANELS + small_panels(5):
            self.assertEqual(free(b), [len(strand_pieces(b))], b)


class Marks(unittest.TestCase):
    def test_written_out(self):
        self.assertEqual(marks(HEAD + [1, 1], [0]), [1, 0])
        self.assertEqual(marks(HEAD + [1, 1], [1]), [1, 1])
        self.assertEqual(marks(HEAD + [2, 1, 0], [1]), [2, 1, 1])
        self.assertEqual(marks(HEAD + [2, 1, 1], [1, 0]), [2, 1, 0])
        self.assertEqual(marks(HEAD + [2, 1, 1], [0, 1]), [2, 0, 1])
        self.assertEqual(marks(HEAD + [2, 1, 2], [1]), [3, 1, 1, 0])
        self.assertEqual(marks(RING, [1, 0]), [4, 1, 0, 0, 1])
        self.assertEqual(marks(RING, [0, 1]), [4, 0, 1, 1, 0])
        self.assertEqual(marks(RING, [1, 1]), [4, 1, 1, 1, 1])
        self.assertEqual(marks(CORNER, [0, 1]), [8, 0, 0, 0, 0, 1, 1, 1, 1])
        self.assertEqual(marks(CORNER, [1, 0]), [8, 1, 1, 1, 1, 1, 1, 1, 1])
        self.assertEqual(marks(CORNER, [1, 1]), [8, 1, 1, 1, 1, 0, 0, 0, 0])

    def test_every_size(self):
        for b in PANELS + small_panels():
            for s in some_sets(b, 8):
                wanted = marks_of(b, s)
                self.assertEqual(marks(b, s), [len(wanted)] + wanted, (b, s))

    def test_from_the_upper_border_it_is_the_same(self):
        for b in mixed_panels(2) + small_panels():
            for s in some_sets(b, 4):
                self.assertEqual(marks(b, s)[1:], marks_of(b, s, upright=False), (b, s))

    def test_they_are_right_and_mark_the_set(self):
        for b in PANELS + small_panels():
            for s in some_sets(b):
                told = marks(b, s)[1:]
                self.assertEqual(marked(b, told), [1], (b, s))
                self.assertEqual(set_of(b, told), [len(s)] + s, (b, s))

    def test_no_strand_no_mark(self):
        for b in PANELS:
            count = count_of_marks(b)
            self.assertEqual(marks(b, [0] * len(strand_pieces(b))), [count] + [0] * count)

    def test_a_wrong_set(self):
        for b in PANELS[::3]:
            for s in wrong_bits(len(strand_pieces(b))):
                self.assertEqual(marks(b, s), [-9], (b, s))


class Marked(unittest.TestCase):
    def test_written_out(self):
        self.assertEqual(marked(HEAD + [1, 1], [1]), [1])
        self.assertEqual(marked(RING, [1, 0, 0, 1]), [1])
        self.assertEqual(marked(RING, [1, 0, 0, 0]), [0, 1, 1])
        self.assertEqual(marked(RING, [0, 1, 0, 0]), [0, 1, 0])
        self.assertEqual(marked(HEAD + [2, 1, 2], [1, 1, 0]), [1])
        self.assertEqual(marked(HEAD + [2, 1, 2], [1, 0, 0]), [0, 2, 0])
        self.assertEqual(marked(HEAD + [2, 1, 2], [0, 0, 1]), [0, 1, 0])
        self.assertEqual(marked(HEAD + [2, 1, 2], [0, 1, 1]), [0, 1, 0])
        self.assertEqual(marked(HEAD + [3, 1, 2, 2], [1, 1, 0, 0, 0]), [0, 2, 1])
        self.assertEqual(marked(HEAD + [3, 1, 2, 2], [0, 1, 0, 0, 0]), [0, 2, 0])
        self.assertEqual(marked(HEAD + [3, 1, 2, 2], [0, 1, 0, 0, 1]), [0, 1, 1])
        self.assertEqual(marked(HEAD + [2, 1, 1], [0, 1]), [1])

    def test_the_place_of_a_break_not_its_number_among_breaks(self):
        self.assertEqual(marked(HEAD + [3, 1, 1, 2], [0, 1, 0, 0]), [0, 2, 1])
        self.assertEqual(marked(HEAD + [2, 2, 1, 1, 1, 2], [0, 1, 0, 0, 0]), [0, 2, 3])

    def test_all_marks_of_small_panels(self):
        for b in small_panels():
            for m in all_bits(count_of_marks(b)):
                self.assertEqual(marked(b, m), wrong_first(b, m), (b, m))

    def test_marks_of_every_size(self):
        for b in PANELS:
            for seed in range(3):
                m = some_bits(count_of_marks(b), seed)
                self.assertEqual(marked(b, m), wrong_first(b, m), (b, m))

    def test_one_bit_changed_at_each_place(self):
        kinds = set()
        for wide, high in ALL_SIZES:
            b = mixed(wide, high, wide * high)
            right = marks_of(b, some_bits(len(strand_pieces(b)), 2))
            for at in range(len(right)):
                changed = flipped(right, at)
                answer = marked(b, changed)
                self.assertEqual(answer, wrong_first(b, changed), (b, at))
                kinds.add(tuple(answer[:2]))
        self.assertEqual(kinds, {(1,), (0, 1), (0, 2)})

    def test_wrong_lists(self):
        for b in PANELS[::3]:
            for m in wrong_bits(count_of_marks(b)):
                self.assertEqual(marked(b, m), [-9], (b, m))


class SetOf(unittest.TestCase):
    def test_written_out(self):
        self.assertEqual(set_of(HEAD + [1, 1], [0]), [1, 0])
        self.assertEqual(set_of(HEAD + [1, 1], [1]), [1, 1])
        self.assertEqual(set_of(HEAD + [2, 1, 1], [0, 1]), [2, 0, 1])
        self.assertEqual(set_of(RING, [1, 0, 0, 1]), [2, 1, 0])
        self.assertEqual(set_of(RING, [0, 1, 1, 0]), [2, 0, 1])
        self.assertEqual(set_of(CORNER, [0, 0, 0, 0, 1, 1, 1, 1]), [2, 0, 1])
        self.assertEqual(set_of(CORNER, [1, 1, 1, 1, 0, 0, 0, 0]), [2, 1, 1])

    def test_one_to_one_on_small_panels(self):
        for b in small_panels():
            count = strands(b)[0]
            found = []
            for m in all_bits(count_of_marks(b)):
                if wrong_first(b, m) == [1]:
                    answer = set_of(b, m)
                    self.assertEqual(answer[0], count)
                    self.assertEqual(marks_of(b, answer[1:]), m)
                    found.append(answer[1:])
                else:
                    self.assertEqual(set_of(b, m), [-5])
            self.assertEqual(sorted(found), all_bits(count))

    def test_sets_of_every_size(self):
        for b in PANELS:
            for s in some_sets(b):
                self.assertEqual(set_of(b, marks_of(b, s)), [len(s)] + s, (b, s))

    def test_not_right(self):
        for wide, high in ALL_SIZES:
            b = mixed(wide, high, 2)
            right = marks_of(b, some_bits(len(strand_pieces(b)), 3))
            for at in range(len(right)):
                changed = flipped(right, at)
                if wrong_first(b, changed) != [1]:
                    self.assertEqual(set_of(b, changed), [-5])

    def test_wrong_lists_ahead_of_marks_that_are_not_right(self):
        for b in PANELS[::3]:
            for m in wrong_bits(count_of_marks(b)):
                self.assertEqual(set_of(b, m), [-9], (b, m))
        self.assertEqual(set_of(RING, [1, 0, 0, 0]), [-5])
        self.assertEqual(set_of(RING, [1, 0, 0, 2]), [-9])
        self.assertEqual(set_of(RING, [1, 0, 0, 0, 0]), [-9])


class Plus(unittest.TestCase):
    def test_written_out(self):
        self.assertEqual(plus(RING, [1, 0, 0, 1], [0, 1, 1, 0]), [4, 1, 1, 1, 1])
        self.assertEqual(plus(RING, [1, 0, 0, 1], [1, 1, 1, 1]), [4, 0, 1, 1, 0])
        self.assertEqual(plus(RING, [1, 0, 0, 1], [1, 0, 0, 1]), [4, 0, 0, 0, 0])
        self.assertEqual(plus(HEAD + [1, 1], [1], [0]), [1, 1])

    def test_sums_mark_what_is_of_just_one_set(self):
        for b in PANELS + small_panels():
            count = len(strand_pieces(b))
            for seed in range(2):
                s, z = some_bits(count, seed), some_bits(count, seed + 7)
                wanted = marks_of(b, [int(one != two) for one, two in zip(s, z)])
                self.assertEqual(plus(b, marks_of(b, s), marks_of(b, z)), [len(wanted)] + wanted)
                self.assertEqual(marked(b, wanted), [1])

    def test_not_right(self):
        right, wrong = [1, 0, 0, 1], [1, 0, 0, 0]
        self.assertEqual(plus(RING, wrong, right), [-5])
        self.assertEqual(plus(RING, right, wrong), [-5])
        # Not even if both together would be right.
        self.assertEqual(plus(RING, wrong, wrong), [-5])
        self.assertEqual(plus(RING, wrong, [0, 0, 0, 1]), [-5])

    def test_not_right_of_every_size(self):
        for wide, high in ALL_SIZES:
            b = mixed(wide, high, 2)
            right = marks_of(b, some_bits(len(strand_pieces(b)), 3))
            for at in range(0, len(right), 5):
                changed = flipped(right, at)
                if wrong_first(b, changed) != [1]:
                    self.assertEqual(plus(b, right, changed), [-5])
                    self.assertEqual(plus(b, changed, right), [-5])

    def test_wrong_lists_ahead_of_marks_that_are_not_right(self):
        for b in PANELS[::6] + [RING, CORNER]:
            count = count_of_marks(b)
            for wrong in wrong_bits(count):
                for other in ([0] * count, [1] + [0] * (count - 1), some_bits(count, 1), wrong):
                    self.assertEqual(plus(b, wrong, other), [-9], (b, wrong))
                    self.assertEqual(plus(b, other, wrong), [-9], (b, wrong))

    def test_either_list_too_long_comes_first(self):
        for b in bad_panels() + [RING]:
            for long in LONG_LISTS:
                for other in ([0] * 4, [2], [1, 0, 0, 0], []):
                    self.assertEqual(plus(b, long, other), [-2])
                    self.assertEqual(plus(b, other, long), [-2])


if __name__ == "__main__":
    unittest.main()
