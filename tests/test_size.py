"""Point 2: size."""

import unittest

from interlace.panels import size
from helpers import ALL_SIZES, HEAD, bad_panels, listed_places, long_bytes, panel, signs


class Sizes(unittest.TestCase):
    def test_written_out(self):
        self.assertEqual(size(HEAD + [1, 1]), [0, 1, 1, 0, 0])
        self.assertEqual(size(HEAD + [1, 8] + [0, 1, 2, 0, 1, 2, 0]), [0, 1, 8, 7, 3])
        self.assertEqual(size(HEAD + [8, 1] + [2, 2, 2, 1, 1, 1, 0]), [0, 8, 1, 7, 1])
        self.assertEqual(size(HEAD + [8, 8] + [0] * 112), [0, 8, 8, 112, 112])
        self.assertEqual(size(HEAD + [3, 2] + [0, 1, 2, 0, 1, 2, 0]), [0, 3, 2, 7, 3])

    def test_every_size(self):
        for wide, high in ALL_SIZES:
            count = len(listed_places(wide, high))
            for start in range(3):
                crossings = len([sign for sign in signs(count, start) if sign == 0])
                wanted = [0, wide, high, count, crossings]
                self.assertEqual(size(panel(wide, high, start)), wanted)

    def test_no_crossing(self):
        for sign in (1, 2):
            self.assertEqual(size(HEAD + [4, 5] + [sign] * 31), [0, 4, 5, 31, 0])


class Refusals(unittest.TestCase):
    def test_too_long_comes_first(self):
        for b in long_bytes():
            self.assertEqual(size(b), [-2])

    def test_no_right_panel(self):
        for b in bad_panels():
            self.assertEqual(size(b), [-6], b[:10])


if __name__ == "__main__":
    unittest.main()
