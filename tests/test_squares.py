"""Point 4: squares."""

import unittest

from interlace.panels import place, squares
from helpers import ALL_SIZES, HEAD, MOST_NUMBER, bad_panels, listed_places, long_bytes, panel


class Squares(unittest.TestCase):
    def test_written_out(self):
        b = HEAD + [3, 2, 0, 1, 2, 0, 1, 2, 0]
        wanted = [(0, 1), (1, 2), (3, 4), (4, 5), (0, 3), (1, 4), (2, 5)]
        for p, pair in enumerate(wanted):
            self.assertEqual(squares(p, b), [0, pair[0], pair[1]])

    def test_one_row_and_one_column(self):
        for p in range(7):
            self.assertEqual(squares(p, panel(8, 1)), [0, p, p + 1])
            self.assertEqual(squares(p, panel(1, 8)), [0, p, p + 1])

    def test_first_and_last(self):
        b = panel(8, 8)
        self.assertEqual(squares(0, b), [0, 0, 1])
        self.assertEqual(squares(55, b), [0, 62, 63])
        self.assertEqual(squares(56, b), [0, 0, 8])
        self.assertEqual(squares(111, b), [0, 55, 63])

    def test_every_place(self):
        for wide, high in ALL_SIZES:
            b = panel(wide, high)
            for p, pair in enumerate(listed_places(wide, high)):
                self.assertEqual(squares(p, b), [0, pair[0], pair[1]], (wide, high, p))

    def test_agrees_with_place(self):
        for wide, high in ALL_SIZES:
            b = panel(wide, high)
            for p in range(len(b) - 6):
                first, other = squares(p, b)[1:]
                side = 1 if place(first % wide, first // wide, 1, b)[1:2] == [p] else 2
                self.assertEqual(place(first % wide, first // wide, side, b), [0, p, b[6 + p], other])


class Refusals(unittest.TestCase):
    def test_no_such_place(self):
        for wide, high in ALL_SIZES:
            b = panel(wide, high)
            count = len(listed_places(wide, high))
            for p in (count, count + 1, count + 100, MOST_NUMBER):
                self.assertEqual(squares(p, b), [-4], (wide, high, p))

    def test_too_long_comes_first(self):
        for b in long_bytes():
            self.assertEqual(squares(0, b), [-2])
            self.assertEqual(squares(MOST_NUMBER, b), [-2])

    def test_then_no_right_panel(self):
        for b in bad_panels():
            self.assertEqual(squares(0, b), [-6])
            self.assertEqual(squares(MOST_NUMBER, b), [-6])


if __name__ == "__main__":
    unittest.main()
