"""Point 1: judge."""

import unittest

from interlace.panels import judge
from helpers import ALL_SIZES, HEAD, listed_places, long_bytes, panel


class RightPanels(unittest.TestCase):
    def test_every_size(self):
        for wide, high in ALL_SIZES:
            for start in range(3):
                self.assertEqual(judge(panel(wide, high, start)), [0], (wide, high))

    def test_written_out(self):
        self.assertEqual(judge([80, 76, 80, 49, 1, 1]), [0])
        self.assertEqual(judge([80, 76, 80, 49, 2, 1, 2]), [0])
        self.assertEqual(judge([80, 76, 80, 49, 1, 2, 1]), [0])
        self.assertEqual(judge([80, 76, 80, 49, 2, 2, 0, 1, 2, 0]), [0])

    def test_a_panel_of_one_sign(self):
        count = len(listed_places(8, 8))
        self.assertEqual(count, 112)
        for sign in (0, 1, 2):
            self.assertEqual(judge(HEAD + [8, 8] + [sign] * count), [0])


class TooLong(unittest.TestCase):
    def test_more_than_1024(self):
        for b in long_bytes():
            self.assertEqual(judge(b), [-2])

    def test_1024_are_judged(self):
        right = panel(8, 8)
        self.assertEqual(judge(right + [0] * (1024 - len(right))), [-6, 1, 4])
        self.assertEqual(judge([0] * 1024), [-6, 1, 0])


class Kind1AtMark(unittest.TestCase):
    def test_fewer_than_6(self):
        right = panel(1, 1)
        self.assertEqual(len(right), 6)
        for count in range(6):
            self.assertEqual(judge(right[:count]), [-6, 1, 0], count)

    def test_5_bytes_with_a_wrong_width(self):
        self.assertEqual(judge(HEAD + [0]), [-6, 1, 0])
        self.assertEqual(judge(HEAD + [9]), [-6, 1, 0])

    def test_another_mark(self):
        for wide, high in [(1, 1), (3, 2), (8, 8)]:
            for at in range(4):
                for change in (-1, 1):
                    b = panel(wide, high)
                    b[at] += change
                    self.assertEqual(judge(b), [-6, 1, 0], (wide, high, at))

    def test_another_order_of_the_mark(self):
        self.assertEqual(judge([49, 80, 76, 80, 1, 1]), [-6, 1, 0])
        self.assertEqual(judge([112, 108, 112, 49, 1, 1]), [-6, 1, 0])

    def test_mark_ahead_of_size(self):
        self.assertEqual(judge([80, 76, 80, 50, 0, 9, 7]), [-6, 1, 0])


class Kind2(unittest.TestCase):
    def test_wide(self):
        for wide in (0, 9, 10, 255):
            for high in range(1, 9):
                self.assertEqual(judge(HEAD + [wide, high]), [-6, 2, 4])

    def test_high(self):
        for high in (0, 9, 10, 255):
            for wide in range(1, 9):
                self.assertEqual(judge(HEAD + [wide, high]), [-6, 2, 5])

    def test_with_as_many_places_as_it_would_have(self):
        self.assertEqual(judge(HEAD + [9, 1] + [0] * 8), [-6, 2, 4])
        self.assertEqual(judge(HEAD + [1, 9] + [0] * 8), [-6, 2, 5])
        self.assertEqual(judge(HEAD + [9, 9] + [0] * 144), [-6, 2, 4])

    def test_wide_ahead_of_high(self):
        for wide in (0, 9):
            for high in (0, 9):
                self.assertEqual(judge(HEAD + [wide, high]), [-6, 2, 4])

    def test_size_ahead_of_length_and_signs(self):
        self.assertEqual(judge(HEAD + [0, 3, 3, 3]), [-6, 2, 4])
        self.assertEqual(judge(HEAD + [3, 0, 3, 3]), [-6, 2, 5])


class Kind1AtLength(unittest.TestCase):
    def test_one_too_few(self):
        for wide, high in ALL_SIZES[1:]:
            self.assertEqual(judge(panel(wide, high)[:-1]), [-6, 1, 4], (wide, high))

    def test_one_too_many(self):
        for wide, high in ALL_SIZES:
            self.assertEqual(judge(panel(wide, high) + [0]), [-6, 1, 4], (wide, high))

    def test_length_of_another_size(self):
        places = panel(3, 2)[6:]
        self.assertEqual(judge(HEAD + [2, 3] + places), [0])
        self.assertEqual(judge(HEAD + [2, 2] + places), [-6, 1, 4])
        self.assertEqual(judge(HEAD + [6, 1] + places), [-6, 1, 4])

    def test_length_ahead_of_signs(self):
        right = panel(3, 2)
        self.assertEqual(judge(right + [3]), [-6, 1, 4])
        self.assertEqual(judge(right[:6] + [3] * (len(right) - 7)), [-6, 1, 4])


class Kind3(unittest.TestCase):
    def test_every_place(self):
        for wide, high in [(2, 1), (1, 2), (1, 8), (8, 1), (3, 2), (8, 8)]:
            for at in range(6, len(panel(wide, high))):
                b = panel(wide, high)
                b[at] = 3
                self.assertEqual(judge(b), [-6, 3, at], (wide, high, at))
                b[at] = 255
                self.assertEqual(judge(b), [-6, 3, at], (wide, high, at))
                b[at] = 2
                self.assertEqual(judge(b), [0], (wide, high, at))

    def test_the_first_of_several(self):
        b = panel(4, 4)
        b[20] = 200
        b[9] = 3
        b[-1] = 4
        self.assertEqual(judge(b), [-6, 3, 9])


if __name__ == "__main__":
    unittest.main()
