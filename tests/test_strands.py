"""Points 9 and 10: strands, strand_of."""

import math
import unittest

from interlace.panels import joined, strand_of, strands
from helpers import (
    ALL_SIZES, HEAD, MOST_NUMBER, mixed_panels, panel, small_panels, strand_pieces, uniform, uniform_panels,
)


def all_strands_of(b):
    return [strand_of(i, b)[0] for i in range(4 * b[4] * b[5])]


class Strands(unittest.TestCase):
    def test_written_out(self):
        self.assertEqual(strands(HEAD + [1, 1]), [1])
        self.assertEqual(strands(HEAD + [2, 1, 0]), [1])
        self.assertEqual(strands(HEAD + [2, 1, 1]), [2])
        self.assertEqual(strands(HEAD + [2, 1, 2]), [1])
        self.assertEqual(strands(HEAD + [2, 2, 0, 0, 0, 0]), [2])
        self.assertEqual(strands(HEAD + [2, 2, 2, 2, 2, 2]), [2])

    def test_crossings_alone(self):
        for wide, high in ALL_SIZES:
            self.assertEqual(strands(uniform(wide, high, 0)), [math.gcd(wide, high)])

    def test_breaks_along_alone(self):
        for wide, high in ALL_SIZES:
            self.assertEqual(strands(uniform(wide, high, 1)), [wide * high])

    def test_breaks_across_alone(self):
        # One round each corner where four squares meet, and one along the border.
        for wide, high in ALL_SIZES:
            self.assertEqual(strands(uniform(wide, high, 2)), [(wide - 1) * (high - 1) + 1])

    def test_every_size(self):
        for b in mixed_panels() + uniform_panels() + small_panels():
            self.assertEqual(strands(b), [len(strand_pieces(b))])


class StrandOf(unittest.TestCase):
    def test_written_out(self):
        self.assertEqual(all_strands_of(HEAD + [1, 1]), [0] * 4)
        self.assertEqual(all_strands_of(HEAD + [2, 1, 0]), [0] * 8)
        self.assertEqual(all_strands_of(HEAD + [2, 1, 1]), [0] * 4 + [1] * 4)
        self.assertEqual(all_strands_of(HEAD + [2, 1, 2]), [0] * 8)
        # With breaks across alone the second strand goes round the corner in the middle.
        b = HEAD + [2, 2, 2, 2, 2, 2]
        self.assertEqual(all_strands_of(b), [0, 1, 0, 0, 0, 0, 1, 0, 1, 0, 0, 0, 0, 0, 0, 1])

    def test_every_piece(self):
        for b in mixed_panels() + uniform_panels():
            found = all_strands_of(b)
            for number, pieces in enumerate(strand_pieces(b)):
                self.assertEqual({found[i] for i in pieces}, {number})

    def test_pieces_that_are_joined_are_of_one_strand(self):
        for b in mixed_panels(1) + small_panels():
            found = all_strands_of(b)
            for e in range(8 * b[4] * b[5]):
                self.assertEqual(found[e // 2], found[joined(e, b)[0] // 2])

    def test_numbered_from_0_by_their_least_pieces(self):
        for b in mixed_panels(1) + small_panels():
            found = all_strands_of(b)
            self.assertEqual(list(dict.fromkeys(found)), list(range(strands(b)[0])))

    def test_no_such_piece(self):
        for wide, high in ALL_SIZES:
            b = panel(wide, high)
            count = 4 * wide * high
            self.assertGreaterEqual(strand_of(count - 1, b)[0], 0)
            for i in (count, count + 1, 2 * count, MOST_NUMBER):
                self.assertEqual(strand_of(i, b), [-4])


if __name__ == "__main__":
    unittest.main()
