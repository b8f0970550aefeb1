"""Point 6: joined."""

import unittest

from interlace.panels import joined, place
from helpers import ALL_SIZES, HEAD, MOST_NUMBER, joined_ends, mixed_panels, panel, small_panels, uniform_panels


def pairs(b):
    """All that are joined, two by two, the lesser end first."""
    found = [(e, joined(e, b)[0]) for e in range(8 * b[4] * b[5])]
    return sorted((e, f) for e, f in found if e < f)


class Joined(unittest.TestCase):
    def test_a_single_square(self):
        self.assertEqual(pairs(HEAD + [1, 1]), [(0, 7), (1, 2), (3, 4), (5, 6)])

    def test_an_upright_place(self):
        border = [(0, 7), (3, 4), (5, 6), (8, 15), (9, 10), (11, 12)]
        self.assertEqual(pairs(HEAD + [2, 1, 0]), sorted(border + [(1, 13), (2, 14)]))
        self.assertEqual(pairs(HEAD + [2, 1, 1]), sorted(border + [(1, 2), (13, 14)]))
        self.assertEqual(pairs(HEAD + [2, 1, 2]), sorted(border + [(1, 14), (2, 13)]))

    def test_a_level_place(self):
        border = [(0, 7), (1, 2), (5, 6), (9, 10), (11, 12), (13, 14)]
        self.assertEqual(pairs(HEAD + [1, 2, 0]), sorted(border + [(3, 15), (4, 8)]))
        self.assertEqual(pairs(HEAD + [1, 2, 1]), sorted(border + [(3, 4), (8, 15)]))
        self.assertEqual(pairs(HEAD + [1, 2, 2]), sorted(border + [(3, 8), (4, 15)]))

    def test_every_end_as_the_pieces_run(self):
        for b in mixed_panels() + uniform_panels() + small_panels():
            for e, wanted in joined_ends(b).items():
                self.assertEqual(joined(e, b), [wanted], (b, e))

    def test_two_by_two_of_different_pieces(self):
        for b in mixed_panels() + small_panels():
            for e in range(8 * b[4] * b[5]):
                (f,) = joined(e, b)
                self.assertEqual(joined(f, b), [e])
                self.assertNotEqual(e // 2, f // 2)

    def test_at_one_place(self):
        for b in mixed_panels():
            wide = b[4]
            for e in range(8 * wide * b[5]):
                (f,) = joined(e, b)
                here, there = [
                    place(end // 8 % wide, end // 8 // wide, (end % 8 + 1) // 2 % 4, b) for end in (e, f)
                ]
                self.assertEqual(here[:3], there[:3], (b, e))
                stays = here[0] == -5 or here[2] == 1
                self.assertEqual(f // 8, e // 8 if stays else here[3])


class Refusals(unittest.TestCase):
    def test_no_such_end(self):
        for wide, high in ALL_SIZES:
            b = panel(wide, high)
            count = 8 * wide * high
            self.assertGreaterEqual(joined(count - 1, b)[0], 0)
            for e in (count, count + 1, count + 8, MOST_NUMBER):
                self.assertEqual(joined(e, b), [-4])


if __name__ == "__main__":
    unittest.main()
