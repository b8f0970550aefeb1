"""The interface: names, arguments, what is given back, and that nothing is kept or changed."""

import inspect
import unittest

from interlace import panels
from helpers import Kept, MOST_NUMBER, SOME_SIZES, bad_panels, long_bytes, panel, plain

ARGUMENTS = {
    "judge": ["b"],
    "size": ["b"],
    "place": ["x", "y", "k", "b"],
    "squares": ["p", "b"],
    "set_it": ["p", "z", "b"],
}

NUMBERS = {
    "judge": [()],
    "size": [()],
    "place": [(0, 0, 1), (0, 0, 2), (1, 1, 0), (1, 1, 3), (0, 0, 0), (8, 8, 4), (MOST_NUMBER,) * 3],
    "squares": [(0,), (1,), (6,), (111,), (MOST_NUMBER,)],
    "set_it": [(0, 0), (0, 1), (1, 2), (6, 0), (111, 2), (0, 3), (MOST_NUMBER, 2), (MOST_NUMBER,) * 2],
}


def all_bytes():
    return [panel(wide, high) for wide, high in SOME_SIZES] + bad_panels() + long_bytes()


def all_calls():
    """Each call by its name with each row of its numbers and each b."""
    return [(name, row, b) for name in ARGUMENTS for row in NUMBERS[name] for b in all_bytes()]


class Interface(unittest.TestCase):
    def test_names_and_arguments(self):
        for name, wanted in ARGUMENTS.items():
            call = getattr(panels, name)
            self.assertEqual(list(inspect.signature(call).parameters), wanted)

    def test_gives_back_lists_of_whole_numbers(self):
        for name, row, b in all_calls():
            answer = getattr(panels, name)(*row, b)
            self.assertTrue(plain(answer), (name, row, answer))
            self.assertGreater(len(answer), 0)

    def test_a_refusal_is_answered_alone(self):
        for name, row, b in all_calls():
            answer = getattr(panels, name)(*row, b)
            if answer[0] < 0:
                length = 3 if name == "judge" and answer[0] == -6 else 1
                self.assertEqual(len(answer), length, (name, row))

    def test_what_is_handed_in_is_not_changed(self):
        for name, row, b in all_calls():
            kept = Kept(b)
            wanted = getattr(panels, name)(*row, list(b))
            self.assertEqual(getattr(panels, name)(*row, kept), wanted)
            self.assertEqual(list(kept), b)

    def test_nothing_is_kept_from_call_to_call(self):
        calls = all_calls()
        before = [getattr(panels, name)(*row, b) for name, row, b in calls]
        # An answer that is changed by its reader must not show in a later one.
        shown = [list(answer) for answer in before]
        for answer in before:
            answer.append(7)
            answer[0] = 7
        again = [getattr(panels, name)(*row, b) for name, row, b in reversed(calls)]
        self.assertEqual(list(reversed(again)), shown)


if __name__ == "__main__":
    unittest.main()
