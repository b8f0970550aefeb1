"""The interface: names, arguments, what is given back, and that nothing is kept or changed."""

import inspect
import unittest

from interlace import panels
from helpers import (
    CALLS, Kept, LONG_LISTS, SOME_SIZES, WRONG_LISTS, bad_panels, drawing, fitting_lists, handed_rows, long_bytes, mixed,
    panel, plain,
)

PANELS = [panel(wide, high) for wide, high in SOME_SIZES] + [mixed(5, 6, 1), mixed(8, 8, 2)]
DRAWINGS = [drawing(b) for b in PANELS] + [drawing(b)[:-1] for b in PANELS]
# Bytes, with the lists that are handed in beside them.
HANDED = [(b, WRONG_LISTS[:3] + LONG_LISTS[:1] + fitting_lists(b)) for b in PANELS]
HANDED += [(b, WRONG_LISTS[:2]) for b in bad_panels() + long_bytes() + DRAWINGS]


def all_calls():
    """Each call by its name with what is handed in."""
    for name in CALLS:
        for b, lists in HANDED:
            for handed in handed_rows(name, b, lists):
                yield name, handed


def call(name, handed):
    return getattr(panels, name)(*handed)


class Interface(unittest.TestCase):
    def test_names_and_arguments(self):
        for name, (arguments, _) in CALLS.items():
            found = inspect.signature(getattr(panels, name)).parameters
            self.assertEqual(list(found), list(arguments))

    def test_gives_back_lists_of_whole_numbers(self):
        for name, handed in all_calls():
            answer = call(name, handed)
            self.assertTrue(plain(answer), (name, handed, answer))
            self.assertGreater(len(answer), 0)

    def test_a_refusal_is_answered_alone(self):
        more = {"judge": 3, "read": 2}
        for name, handed in all_calls():
            answer = call(name, handed)
            if answer[0] < 0:
                length = more.get(name, 1) if answer[0] == -6 else 1
                self.assertEqual(len(answer), length, (name, handed))

    def test_what_is_handed_in_is_not_changed(self):
        for name, handed in all_calls():
            kept = [Kept(one) if isinstance(one, list) else one for one in handed]
            self.assertEqual(call(name, kept), call(name, handed))
            self.assertEqual(kept, handed)

    def test_nothing_is_kept_from_call_to_call(self):
        calls = list(all_calls())
        before = [call(name, handed) for name, handed in calls]
        # An answer that is changed by its reader must not show in a later one.
        shown = [list(answer) for answer in before]
        for answer in before:
            answer.append(7)
            answer[0] = 7
        again = [call(name, handed) for name, handed in reversed(calls)]
        self.assertEqual(list(reversed(again)), shown)


if __name__ == "__main__":
    unittest.main()
