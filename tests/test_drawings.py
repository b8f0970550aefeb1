"""Points 7 and 8: print_of (the words' print), read."""

import unittest

from interlace.panels import print_of, read
from helpers import ALL_SIZES, HEAD, drawing, mixed, mixed_panels, small_panels, uniform, uniform_panels

SIGNS = list(b"ox|- \n\0\r\xff")


def told(text):
    return list(text.encode("ascii"))


def allowed_signs(wide, high):
    """What may stand at each place of a drawing of this size."""
    row = (["o", "x|-"] * wide)[:-1] + ["\n"]
    level = (["x|-", " "] * wide)[:-1] + ["\n"]
    return [told(signs) for signs in (row + level) * (high - 1) + row]


FORMS = [allowed_signs(wide, high) for wide, high in ALL_SIZES]


def fault_of(t):
    """The first place at which no drawing of any size goes on, or None if t is a drawing."""
    forms = FORMS
    for at, sign in enumerate(t):
        forms = [form for form in forms if at < len(form) and sign in form[at]]
        if not forms:
            return at
    return None if any(len(form) == len(t) for form in forms) else len(t)


class Printed(unittest.TestCase):
    def test_written_out(self):
        self.assertEqual(print_of(HEAD + [1, 1]), [2] + told("o\n"))
        self.assertEqual(print_of(HEAD + [4, 1, 0, 1, 2]), [8] + told("oxo|o-o\n"))
        self.assertEqual(print_of(HEAD + [1, 4, 0, 1, 2]), [14] + told("o\nx\no\n-\no\n|\no\n"))
        b = HEAD + [3, 2, 0, 1, 2, 0, 1, 2, 0]
        self.assertEqual(print_of(b), [18] + told("oxo|o\n- | x\no-oxo\n"))

    def test_the_largest(self):
        row = "o" + "xo" * 7 + "\n"
        level = "x" + " x" * 7 + "\n"
        self.assertEqual(print_of(uniform(8, 8, 0)), [240] + told(row + (level + row) * 7))

    def test_every_size(self):
        for b in mixed_panels() + uniform_panels() + small_panels():
            wanted = drawing(b)
            self.assertEqual(print_of(b), [len(wanted)] + wanted)


class Read(unittest.TestCase):
    def test_written_out(self):
        self.assertEqual(read(told("o\n")), [6] + HEAD + [1, 1])
        self.assertEqual(read(told("oxo|o-o\n")), [9] + HEAD + [4, 1, 0, 1, 2])
        self.assertEqual(read(told("o\nx\no\n-\no\n|\no\n")), [9] + HEAD + [1, 4, 0, 1, 2])
        self.assertEqual(read(told("oxo|o\n- | x\no-oxo\n")), [13] + HEAD + [3, 2, 0, 1, 2, 0, 1, 2, 0])

    def test_gives_back_what_was_printed(self):
        for b in mixed_panels() + uniform_panels() + small_panels():
            self.assertEqual(read(print_of(b)[1:]), [len(b)] + b)

    def test_what_is_read_is_printed_so(self):
        # All rows of up to five signs: those that are read are just those that are printed.
        printed = {tuple(print_of(b)[1:]) for b in small_panels()}
        rows = [()]
        for _ in range(5):
            rows = [row + (sign,) for row in rows for sign in told("ox|- \n")]
            for row in rows:
                self.assertEqual(read(list(row))[0] > 0, row in printed, row)


class Faults(unittest.TestCase):
    def check(self, t):
        wanted = fault_of(t)
        answer = read(t)
        if wanted is None:
            self.assertGreater(answer[0], 0, t)
            self.assertEqual(print_of(answer[1:])[1:], t)
        else:
            self.assertEqual(answer, [-6, wanted], t)

    def test_written_out(self):
        self.assertEqual(read([]), [-6, 0])
        self.assertEqual(read(told("\n")), [-6, 0])
        self.assertEqual(read(told("x")), [-6, 0])
        self.assertEqual(read(told("o")), [-6, 1])
        self.assertEqual(read(told("oo\n")), [-6, 1])
        self.assertEqual(read(told("ox\n")), [-6, 2])
        self.assertEqual(read(told("oxo")), [-6, 3])
        self.assertEqual(read(told("o\n\n")), [-6, 2])
        self.assertEqual(read(told("o\nx\n")), [-6, 4])
        self.assertEqual(read(told("o\nx\noxo\n")), [-6, 5])
        self.assertEqual(read(told("oxo\nx x\no\n")), [-6, 9])
        self.assertEqual(read(told("oxo\nxxx\noxo\n")), [-6, 5])
        self.assertEqual(read(told("oxo\nx x \noxo\n")), [-6, 7])
        self.assertEqual(read(told("o\no\n")), [-6, 2])
        self.assertEqual(read(told("Oxo\n")), [-6, 0])
        self.assertEqual(read(told("oXo\n")), [-6, 1])

    def test_cut_short_at_every_place(self):
        for wide, high in ALL_SIZES:
            t = drawing(mixed(wide, high, 1))
            for length in range(len(t)):
                self.check(t[:length])
            lines = {2 * wide * count for count in range(1, 2 * high, 2)}
            for length in range(len(t)):
                if length not in lines:
                    self.assertEqual(read(t[:length]), [-6, length])

    def test_one_sign_changed_at_every_place(self):
        for wide, high in ALL_SIZES:
            t = drawing(mixed(wide, high, 0))
            for at in range(len(t)):
                for sign in SIGNS:
                    if sign != t[at]:
                        self.check(t[:at] + [sign] + t[at + 1:])

    def test_one_sign_more_or_less_at_every_place(self):
        for wide, high in [(1, 1), (1, 3), (3, 1), (3, 4), (8, 2), (2, 8), (8, 8)]:
            t = drawing(mixed(wide, high, 2))
            for at in range(len(t) + 1):
                self.check(t[:at] + t[at + 1:])
                for sign in SIGNS:
                    self.check(t[:at] + [sign] + t[at:])

    def test_a_ninth_square(self):
        for high in range(1, 9):
            rows = ["oxoxoxoxoxoxoxoxo\n"] * high
            self.assertEqual(read(told("x x x x x x x x x\n".join(rows))), [-6, 15])
        self.assertEqual(read(told("oxoxoxoxoxoxoxox")), [-6, 15])
        self.assertEqual(read(told("oxoxoxoxoxoxoxo")), [-6, 15])
        self.assertEqual(read(told("oxoxoxoxoxoxoxo\n"))[0], 13)

    def test_a_ninth_row(self):
        for wide in range(1, 9):
            t = drawing(mixed(wide, 8, 0))
            level = told("x" + " x" * (wide - 1) + "\n")
            row = told("o" + "xo" * (wide - 1) + "\n")
            self.assertEqual(len(t), 30 * wide)
            self.assertEqual(read(t + level + row), [-6, len(t)])
            self.assertEqual(read(t + level), [-6, len(t)])
            self.assertEqual(read(t + [120]), [-6, len(t)])
            self.assertEqual(read(t + [10]), [-6, len(t)])

    def test_another_width_in_a_later_row(self):
        for wide in range(1, 9):
            for other in range(1, 9):
                for y in range(1, 4):
                    if wide != other:
                        lines = ["o" + "xo" * (wide - 1), "|" + " |" * (wide - 1)] * 4 + ["o" + "xo" * (wide - 1)]
                        lines[2 * y] = "o" + "xo" * (other - 1)
                        at = 4 * wide * y + 2 * min(wide, other) - 1
                        self.assertEqual(read(told("\n".join(lines) + "\n")), [-6, at])
                        lines[2 * y] = lines[0]
                        lines[2 * y - 1] = "-" + " -" * (other - 1)
                        at = 4 * wide * y - 2 * wide + 2 * min(wide, other) - 1
                        self.assertEqual(read(told("\n".join(lines) + "\n")), [-6, at])

    def test_1024_are_read_and_1025_are_not(self):
        t = drawing(uniform(8, 8, 0))
        self.assertEqual(read(t + [10] * (1024 - len(t))), [-6, 240])
        self.assertEqual(read(t + [10] * (1025 - len(t))), [-2])
        self.assertEqual(read([0] * 1024), [-6, 0])
        self.assertEqual(read([0] * 1025), [-2])
        self.assertEqual(read([111] * 2000), [-2])


if __name__ == "__main__":
    unittest.main()
