"""Point 5: set_it (the words' set)."""

import unittest

from interlace.panels import judge, set_it
from helpers import ALL_SIZES, HEAD, MOST_NUMBER, bad_panels, long_bytes, panel


class Changed(unittest.TestCase):
    def test_written_out(self):
        b = HEAD + [2, 2, 0, 1, 2, 0]
        self.assertEqual(set_it(0, 2, b), [10, 80, 76, 80, 49, 2, 2, 2, 1, 2, 0])
        self.assertEqual(set_it(1, 0, b), [10, 80, 76, 80, 49, 2, 2, 0, 0, 2, 0])
        self.assertEqual(set_it(3, 1, b), [10, 80, 76, 80, 49, 2, 2, 0, 1, 2, 1])

    def test_what_stood_there_already(self):
        b = HEAD + [2, 2, 0, 1, 2, 0]
        for p in range(4):
            self.assertEqual(set_it(p, b[6 + p], b), [10] + b)

    def test_every_place_and_sign(self):
        for wide, high in ALL_SIZES:
            b = panel(wide, high)
            for p in range(len(b) - 6):
                for z in (0, 1, 2):
                    wanted = b[:6 + p] + [z] + b[7 + p:]
                    self.assertEqual(set_it(p, z, b), [len(b)] + wanted)
                    self.assertEqual(judge(wanted), [0])

    def test_first_and_last_of_the_largest(self):
        b = HEAD + [8, 8] + [0] * 112
        self.assertEqual(set_it(0, 1, b), [118] + HEAD + [8, 8, 1] + [0] * 111)
        self.assertEqual(set_it(111, 2, b), [118] + HEAD + [8, 8] + [0] * 111 + [2])

    def test_the_answer_is_a_list_of_its_own(self):
        b = HEAD + [2, 1, 0]
        answer = set_it(0, 0, b)
        answer[7] = 2
        answer.append(9)
        self.assertEqual(b, HEAD + [2, 1, 0])
        self.assertEqual(set_it(0, 0, b), [7] + b)


class Refusals(unittest.TestCase):
    def test_z_above_2(self):
        for z in (3, 4, 255, 256, MOST_NUMBER):
            self.assertEqual(set_it(0, z, panel(3, 2)), [-1])

    def test_no_such_place(self):
        for wide, high in ALL_SIZES:
            b = panel(wide, high)
            for z in (0, 1, 2):
                for p in (len(b) - 6, len(b) - 5, MOST_NUMBER):
                    self.assertEqual(set_it(p, z, b), [-4])

    def test_too_long_comes_first(self):
        for b in long_bytes():
            self.assertEqual(set_it(0, 0, b), [-2])
            self.assertEqual(set_it(MOST_NUMBER, 0, b), [-2])
            self.assertEqual(set_it(MOST_NUMBER, 3, b), [-2])

    def test_then_no_right_panel(self):
        for b in bad_panels():
            self.assertEqual(set_it(0, 0, b), [-6])
            self.assertEqual(set_it(MOST_NUMBER, 0, b), [-6])
            self.assertEqual(set_it(0, 3, b), [-6])

    def test_then_z_ahead_of_the_place(self):
        for wide, high in ALL_SIZES:
            b = panel(wide, high)
            self.assertEqual(set_it(len(b) - 6, 3, b), [-1])
            self.assertEqual(set_it(MOST_NUMBER, MOST_NUMBER, b), [-1])


if __name__ == "__main__":
    unittest.main()
