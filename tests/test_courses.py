"""Points 11 and 12: strand, course."""

import unittest

from interlace.panels import course, size, strand, strands
from helpers import (
    ALL_SIZES, HEAD, MOST_NUMBER, crossed_strands, joined_ends, mixed_panels, small_panels, strand_pieces, uniform,
    uniform_panels,
)


class Strand(unittest.TestCase):
    def test_written_out(self):
        self.assertEqual(strand(0, HEAD + [1, 1]), [0, 0, 4, 0, 0])
        self.assertEqual(strand(0, HEAD + [2, 1, 0]), [0, 0, 8, 0, 1])
        self.assertEqual(strand(1, HEAD + [2, 1, 1]), [0, 4, 4, 0, 0])
        self.assertEqual(strand(0, HEAD + [2, 1, 2]), [0, 0, 8, 0, 0])
        self.assertEqual(strand(0, HEAD + [2, 2, 0, 0, 0, 0]), [0, 0, 8, 4, 0])
        self.assertEqual(strand(1, HEAD + [2, 2, 0, 0, 0, 0]), [0, 1, 8, 4, 0])
        self.assertEqual(strand(0, HEAD + [2, 2, 2, 2, 2, 2]), [0, 0, 12, 0, 0])
        self.assertEqual(strand(1, HEAD + [2, 2, 2, 2, 2, 2]), [0, 1, 4, 0, 0])

    def test_one_strand_that_crosses_itself_everywhere(self):
        self.assertEqual(strand(0, uniform(7, 8, 0)), [0, 0, 224, 0, 97])

    def test_every_strand(self):
        for b in mixed_panels() + uniform_panels() + small_panels():
            pairs = list(crossed_strands(b).values())
            for k, pieces in enumerate(strand_pieces(b)):
                others = sum(1 for pair in pairs if len(set(pair)) == 2 and k in pair)
                wanted = [0, min(pieces), len(pieces), others, pairs.count((k, k))]
                self.assertEqual(strand(k, b), wanted, (b, k))

    def test_together_they_have_all_pieces_and_crossings(self):
        for b in mixed_panels(1) + uniform_panels():
            told = [strand(k, b) for k in range(strands(b)[0])]
            self.assertEqual(sum(row[2] for row in told), 4 * b[4] * b[5])
            self.assertEqual(sum(row[3] + 2 * row[4] for row in told), 2 * size(b)[4])


class Course(unittest.TestCase):
    def test_written_out(self):
        self.assertEqual(course(0, HEAD + [1, 1]), [4, 0, 2, 4, 6])
        self.assertEqual(course(0, HEAD + [2, 1, 0]), [8, 0, 13, 11, 9, 15, 2, 4, 6])
        self.assertEqual(course(1, HEAD + [2, 1, 1]), [4, 8, 10, 12, 14])
        self.assertEqual(course(0, HEAD + [2, 1, 2]), [8, 0, 14, 8, 10, 12, 2, 4, 6])
        self.assertEqual(course(0, HEAD + [2, 2, 0, 0, 0, 0]), [8, 0, 13, 24, 26, 28, 17, 4, 6])

    def test_every_course(self):
        for b in mixed_panels() + uniform_panels() + small_panels():
            joined = joined_ends(b)
            for k, pieces in enumerate(strand_pieces(b)):
                count, *entered = course(k, b)
                self.assertEqual(count, len(pieces))
                # It enters each piece of its strand just once, the least one first, at its first end.
                self.assertEqual(sorted(e // 2 for e in entered), sorted(pieces))
                self.assertEqual(entered[0], 2 * min(pieces))
                # From each piece it goes on at the end where it was not entered; from the last back to the first.
                for before, behind in zip(entered, entered[1:] + entered[:1]):
                    self.assertEqual(joined[before ^ 1], behind, (b, k))


class Refusals(unittest.TestCase):
    def test_no_such_strand(self):
        for b in mixed_panels(1) + uniform_panels():
            count = len(strand_pieces(b))
            for call in (strand, course):
                self.assertGreaterEqual(call(count - 1, b)[0], 0)
                for k in (count, count + 1, 4 * b[4] * b[5], MOST_NUMBER):
                    self.assertEqual(call(k, b), [-4])

    def test_no_more_than_one_strand(self):
        for wide, high in ALL_SIZES:
            b = uniform(wide, high, 2)
            self.assertEqual(strand((wide - 1) * (high - 1) + 1, b), [-4])
            self.assertEqual(course((wide - 1) * (high - 1) + 1, b), [-4])


if __name__ == "__main__":
    unittest.main()
