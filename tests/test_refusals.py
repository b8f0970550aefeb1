"""What every call refuses ahead of what it says itself: -2 too long, then -6 no right panel's bytes, no drawing."""

import unittest

from interlace import panels
from helpers import CALLS, bad_panels, long_bytes


class Refused(unittest.TestCase):
    def test_too_long_comes_first(self):
        for name, (_, rows) in CALLS.items():
            for row in rows:
                for b in long_bytes():
                    self.assertEqual(getattr(panels, name)(*row, b), [-2], (name, row))

    def test_then_no_right_panel(self):
        for name, (_, rows) in CALLS.items():
            for row in rows:
                for b in bad_panels():
                    answer = getattr(panels, name)(*row, b)
                    self.assertEqual(answer[0], -6, (name, row, b[:10]))


if __name__ == "__main__":
    unittest.main()
