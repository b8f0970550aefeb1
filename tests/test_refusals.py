"""What every call refuses ahead of what it says itself: -2 too long, then -6 no right panel's bytes, no drawing."""

import unittest

from interlace import panels
from helpers import (
    CALLS, LONG_LISTS, MOST_NUMBER, SOME_SIZES, WRONG_LISTS, bad_panels, fitting_lists, handed_rows, long_bytes, mixed,
)

PANELS = [mixed(wide, high, 0) for wide, high in SOME_SIZES]


def with_lists(name):
    return CALLS[name][0][-1] not in "bt"


class Refused(unittest.TestCase):
    def check(self, name, b, lists, wanted):
        for handed in handed_rows(name, b, lists):
            self.assertEqual(getattr(panels, name)(*handed)[0], wanted, (name, handed))

    def test_too_long_bytes_come_first(self):
        for name in CALLS:
            for b in long_bytes():
                self.check(name, b, WRONG_LISTS + LONG_LISTS, -2)

    def test_so_does_a_list_that_is_too_long(self):
        for name in filter(with_lists, CALLS):
            for b in PANELS + bad_panels():
                self.check(name, b, LONG_LISTS, -2)

    def test_so_does_one_long_list_of_two(self):
        for name in filter(with_lists, CALLS):
            for b in PANELS + bad_panels():
                for handed in handed_rows(name, b, WRONG_LISTS + LONG_LISTS):
                    if any(len(one) > 1024 for one in handed if isinstance(one, list)):
                        self.assertEqual(getattr(panels, name)(*handed), [-2])

    def test_then_no_right_panel(self):
        for name in CALLS:
            for b in bad_panels():
                self.check(name, b, WRONG_LISTS + [[0], [1, 0]], -6)

    def test_then_a_wrong_list(self):
        # Of the longest that are not too long, too, and ahead of numbers that are wrong.
        for name in filter(with_lists, CALLS):
            for b in PANELS:
                self.check(name, b, [[2], [0, 1, 2], [0] * 1023, [0] * 1024, [MOST_NUMBER] * 1024], -9)

    def test_right_lists_are_not_refused_for_their_length(self):
        for name in filter(with_lists, CALLS):
            for b in PANELS:
                answers = [getattr(panels, name)(*handed)[0] for handed in handed_rows(name, b, fitting_lists(b))]
                self.assertNotIn(-2, answers)
                self.assertNotIn(-6, answers)


if __name__ == "__main__":
    unittest.main()
