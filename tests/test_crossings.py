"""Points 13 to 15: crossed, meets, parts."""

import unittest

from interlace.panels import crossed, meets, parts, strand, strands
from helpers import (
    ALL_SIZES, HEAD, MOST_NUMBER, crossed_strands, crossing_parts, listed_places, mixed, mixed_panels, panel,
    small_panels, uniform, uniform_panels,
)


class Crossed(unittest.TestCase):
    def test_written_out(self):
        self.assertEqual(crossed(0, HEAD + [2, 1, 0]), [0, 0, 0])
        self.assertEqual(crossed(0, HEAD + [1, 2, 0]), [0, 0, 0])
        # The strand of piece 0 ends at the upright places and begins at the level ones.
        b = HEAD + [2, 2, 0, 0, 0, 0]
        self.assertEqual([crossed(p, b) for p in range(4)], [[0, 1, 0], [0, 1, 0], [0, 0, 1], [0, 0, 1]])

    def test_every_place(self):
        for b in mixed_panels() + uniform_panels() + small_panels():
            pairs = crossed_strands(b)
            for p in range(len(b) - 6):
                wanted = [0, *pairs[p]] if p in pairs else [-5]
                self.assertEqual(crossed(p, b), wanted, (b, p))

    def test_no_such_place(self):
        for wide, high in ALL_SIZES:
            count = len(listed_places(wide, high))
            for sign in (0, 1, 2):
                for p in (count, count + 1, MOST_NUMBER):
                    self.assertEqual(crossed(p, uniform(wide, high, sign)), [-4])

    def test_no_crossing(self):
        self.assertEqual(crossed(0, HEAD + [2, 1, 1]), [-5])
        self.assertEqual(crossed(0, HEAD + [2, 1, 2]), [-5])
        self.assertEqual(crossed(1, HEAD + [2, 1, 1]), [-4])


class Meets(unittest.TestCase):
    def test_written_out(self):
        b = HEAD + [2, 2, 0, 0, 0, 0]
        self.assertEqual(meets(0, 1, b), [4, 0, 1, 2, 3])
        self.assertEqual(meets(1, 0, b), [4, 0, 1, 2, 3])
        self.assertEqual(meets(0, 0, b), [0])
        self.assertEqual(meets(1, 1, b), [0])
        self.assertEqual(meets(0, 0, HEAD + [2, 1, 0]), [1, 0])
        self.assertEqual(meets(0, 1, HEAD + [2, 1, 1]), [0])

    def test_all_of_one_strand(self):
        self.assertEqual(meets(0, 0, uniform(7, 8, 0)), [97] + list(range(97)))

    def test_every_two(self):
        for b in mixed_panels(2) + small_panels():
            pairs = crossed_strands(b)
            count = min(strands(b)[0], 6)
            for i in range(count):
                for j in range(count):
                    wanted = [p for p in sorted(pairs) if sorted(pairs[p]) == sorted((i, j))]
                    self.assertEqual(meets(i, j, b), [len(wanted)] + wanted, (b, i, j))

    def test_different_strands_cross_an_even_number_of_times(self):
        for b in mixed_panels(2) + [uniform(wide, high, 0) for wide, high in ALL_SIZES]:
            count = strands(b)[0]
            for i in range(count):
                crossings = [meets(i, j, b)[0] for j in range(count) if j != i][:12]
                self.assertEqual([number % 2 for number in crossings], [0] * len(crossings))

    def test_agrees_with_strand(self):
        for b in mixed_panels(1):
            count = strands(b)[0]
            k = count // 2
            others = sum(meets(k, j, b)[0] for j in range(count) if j != k)
            self.assertEqual(strand(k, b)[3:], [others, meets(k, k, b)[0]])

    def test_no_such_strand(self):
        for b in mixed_panels(1) + [panel(1, 1)]:
            count = strands(b)[0]
            for wrong in (count, count + 1, MOST_NUMBER):
                self.assertEqual(meets(wrong, 0, b), [-4])
                self.assertEqual(meets(0, wrong, b), [-4])
                self.assertEqual(meets(count - 1, wrong, b), [-4])
                self.assertEqual(meets(wrong, wrong, b), [-4])


class Parts(unittest.TestCase):
    def test_written_out(self):
        self.assertEqual(parts(HEAD + [2, 1, 0]), [1])
        self.assertEqual(parts(HEAD + [2, 2, 0, 0, 0, 0]), [1])
        # Two pairs of squares, each with a crossing, with a break along between them.
        self.assertEqual(parts(HEAD + [4, 1, 0, 1, 0]), [2])
        # With a break across between them the two crossings are of one strand.
        self.assertEqual(parts(HEAD + [4, 1, 0, 2, 0]), [1])
        self.assertEqual(parts(HEAD + [8, 1, 0, 1, 0, 1, 0, 1, 0]), [4])

    def test_crossings_that_hang_together_by_others(self):
        for wide, high in ALL_SIZES[1:]:
            self.assertEqual(parts(uniform(wide, high, 0)), [1])

    def test_without_a_crossing(self):
        for wide, high in ALL_SIZES:
            for sign in (1, 2):
                self.assertEqual(parts(uniform(wide, high, sign)), [0])
        self.assertEqual(parts(HEAD + [1, 1]), [0])

    def test_every_size(self):
        seen = set()
        for b in mixed_panels(6) + small_panels():
            wanted = len(crossing_parts(b))
            self.assertEqual(parts(b), [wanted], b)
            seen.add(wanted)
        self.assertLessEqual({0, 1, 2, 3, 4}, seen)

    def test_as_many_as_all_pairs_of_crossings_say(self):
        for wide in (7, 8):
            for high in (7, 8):
                for seed in range(12):
                    b = mixed(wide, high, seed)
                    self.assertEqual(parts(b), [len(crossing_parts(b))])


if __name__ == "__main__":
    unittest.main()
