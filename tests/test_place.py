"""Point 3: place."""

import unittest

from interlace.panels import place
from helpers import ALL_SIZES, HEAD, MOST_NUMBER, SOME_SIZES, bad_panels, listed_places, long_bytes, panel


def wanted_of(x, y, k, b):
    """The answer for a square and a side of the panel, looked up in the list of all places."""
    wide, high = b[4], b[5]
    far_x = x + (k == 1) - (k == 3)
    far_y = y + (k == 2) - (k == 0)
    if far_x not in range(wide) or far_y not in range(high):
        return [-5]
    here, far = y * wide + x, far_y * wide + far_x
    p = listed_places(wide, high).index((min(here, far), max(here, far)))
    return [0, p, b[6 + p], far]


class Places(unittest.TestCase):
    def test_written_out(self):
        # Squares 0 1 2 above 3 4 5; upright places 0 1, 2 3; level places 4 5 6.
        b = HEAD + [3, 2, 0, 1, 2, 0, 1, 2, 0]
        self.assertEqual(place(0, 0, 1, b), [0, 0, 0, 1])
        self.assertEqual(place(1, 0, 1, b), [0, 1, 1, 2])
        self.assertEqual(place(1, 0, 3, b), [0, 0, 0, 0])
        self.assertEqual(place(0, 1, 1, b), [0, 2, 2, 4])
        self.assertEqual(place(2, 1, 3, b), [0, 3, 0, 4])
        self.assertEqual(place(0, 0, 2, b), [0, 4, 1, 3])
        self.assertEqual(place(1, 1, 0, b), [0, 5, 2, 1])
        self.assertEqual(place(2, 0, 2, b), [0, 6, 0, 5])

    def test_first_and_last_place(self):
        b = HEAD + [8, 8, 1] + [0] * 110 + [2]
        self.assertEqual(place(0, 0, 1, b), [0, 0, 1, 1])
        self.assertEqual(place(1, 0, 3, b), [0, 0, 1, 0])
        self.assertEqual(place(7, 6, 2, b), [0, 111, 2, 63])
        self.assertEqual(place(7, 7, 0, b), [0, 111, 2, 55])

    def test_every_side_of_every_square(self):
        for wide, high in ALL_SIZES:
            b = panel(wide, high, wide)
            for y in range(high):
                for x in range(wide):
                    for k in range(4):
                        wanted = wanted_of(x, y, k, b)
                        self.assertEqual(place(x, y, k, b), wanted, (wide, high, x, y, k))

    def test_each_place_is_on_a_side_of_just_two_squares(self):
        for wide, high in SOME_SIZES:
            b = panel(wide, high)
            seen = {}
            for y in range(high):
                for x in range(wide):
                    for k in range(4):
                        answer = place(x, y, k, b)
                        if answer[0] == 0:
                            seen.setdefault(answer[1], []).append(y * wide + x)
            found = [tuple(seen[p]) for p in sorted(seen)]
            self.assertEqual(found, listed_places(wide, high))


class Border(unittest.TestCase):
    def test_single_square(self):
        for k in range(4):
            self.assertEqual(place(0, 0, k, panel(1, 1)), [-5])

    def test_each_side(self):
        for wide, high in SOME_SIZES:
            b = panel(wide, high)
            for x in range(wide):
                self.assertEqual(place(x, 0, 0, b), [-5])
                self.assertEqual(place(x, high - 1, 2, b), [-5])
            for y in range(high):
                self.assertEqual(place(wide - 1, y, 1, b), [-5])
                self.assertEqual(place(0, y, 3, b), [-5])


class NoSuchSquareOrSide(unittest.TestCase):
    def test_square(self):
        for wide, high in SOME_SIZES:
            b = panel(wide, high)
            for k in range(4):
                for far in (0, 1, 7, MOST_NUMBER - 8):
                    self.assertEqual(place(wide + far, 0, k, b), [-4])
                    self.assertEqual(place(0, high + far, k, b), [-4])
                    self.assertEqual(place(wide + far, high + far, k, b), [-4])

    def test_side(self):
        for wide, high in SOME_SIZES:
            b = panel(wide, high)
            for k in (4, 5, 7, 255, 4294967292, MOST_NUMBER):
                self.assertEqual(place(0, 0, k, b), [-4])
                self.assertEqual(place(wide - 1, high - 1, k, b), [-4])

    def test_all_most(self):
        self.assertEqual(place(MOST_NUMBER, MOST_NUMBER, MOST_NUMBER, panel(8, 8)), [-4])


class Order(unittest.TestCase):
    def test_too_long_comes_first(self):
        for b in long_bytes():
            self.assertEqual(place(0, 0, 1, b), [-2])
            self.assertEqual(place(0, 0, 0, b), [-2])
            self.assertEqual(place(9, 9, 9, b), [-2])

    def test_then_no_right_panel(self):
        for b in bad_panels():
            self.assertEqual(place(0, 0, 1, b), [-6])
            self.assertEqual(place(0, 0, 0, b), [-6])
            self.assertEqual(place(MOST_NUMBER, 9, 9, b), [-6])

    def test_then_square_and_side_ahead_of_the_border(self):
        b = panel(3, 2)
        self.assertEqual(place(3, 0, 0, b), [-4])
        self.assertEqual(place(3, 0, 3, b), [-4])
        self.assertEqual(place(0, 2, 0, b), [-4])
        self.assertEqual(place(0, 2, 3, b), [-4])
        self.assertEqual(place(0, 0, 4, b), [-4])


if __name__ == "__main__":
    unittest.main()
