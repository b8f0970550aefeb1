"""What holds over the whole program, 1 to 7, told by its calls alone."""

import itertools
import unittest

from interlace import panels
from helpers import all_bits, drawing, mixed_panels, small_panels, some_bits, uniform

SMALL = small_panels() + [uniform(3, 2, 0)]
PANELS = mixed_panels(2)


def crossings_of(b):
    return [p for p in range(panels.size(b)[3]) if panels.crossed(p, b)[0] == 0]


def ends_of(b):
    return range(8 * b[4] * b[5])


def side_place(e, b):
    """The place where end e lies, or None at the border."""
    s = e // 8
    answer = panels.place(s % b[4], s // b[4], (e + 1) // 2 % 4, b)
    return answer[1] if answer[0] == 0 else None


class One(unittest.TestCase):
    """Bytes, drawings and panels are one to one; a drawing has one first fault."""

    def test_panels_and_drawings(self):
        several = [tuple(b) for b in small_panels(5)]
        printed = {tuple(panels.print_of(list(b))[1:]): b for b in several}
        self.assertEqual(len(printed), len(set(several)))
        for text, b in printed.items():
            self.assertEqual(panels.read(list(text)), [len(b), *b])
            self.assertEqual(panels.judge(list(b)), [0])

    def test_panels_of_every_size(self):
        for b in PANELS:
            self.assertEqual(panels.read(panels.print_of(b)[1:])[1:], b)

    def test_one_first_fault(self):
        for b in PANELS[::9]:
            t = drawing(b)
            for at in range(len(t)):
                answer = panels.read(t[:at] + [0] + t[at + 1:])
                self.assertEqual(answer, [-6, at])
                # Up to the fault it goes on, so what is behind doesn't matter.
                self.assertEqual(panels.read(t[:at] + [0, 0, 10]), answer)


class Two(unittest.TestCase):
    """Ends are joined two by two, of different pieces, at one place; a place is on a side of just two squares."""

    def test_ends(self):
        for b in PANELS + SMALL:
            for e in ends_of(b):
                (f,) = panels.joined(e, b)
                self.assertEqual(panels.joined(f, b), [e])
                self.assertNotEqual(e // 2, f // 2)
                self.assertEqual(side_place(e, b), side_place(f, b))

    def test_places(self):
        for b in PANELS:
            on = {}
            for s in range(b[4] * b[5]):
                for k in range(4):
                    answer = panels.place(s % b[4], s // b[4], k, b)
                    if answer[0] == 0:
                        on.setdefault(answer[1], []).append(s)
            self.assertEqual(sorted(on), list(range(panels.size(b)[3])))
            for p, both in on.items():
                self.assertEqual(panels.squares(p, b), [0, *both])


class Three(unittest.TestCase):
    """Each piece is of one strand; a course goes round once; each crossing is of two courses, or twice of one."""

    def test_courses(self):
        for b in PANELS[::3] + SMALL:
            found = []
            passed = []
            for k in range(panels.strands(b)[0]):
                entered = panels.course(k, b)[1:]
                self.assertEqual(entered[0] // 2, min(e // 2 for e in entered))
                self.assertEqual(panels.joined(entered[-1] ^ 1, b), [entered[0]])
                found.extend((e // 2, k) for e in entered)
                passed.extend((side_place(e ^ 1, b), k) for e in entered)
            self.assertEqual(sorted(found), [(i, panels.strand_of(i, b)[0]) for i in range(4 * b[4] * b[5])])
            for p in crossings_of(b):
                self.assertEqual(sorted(k for q, k in passed if q == p), sorted(panels.crossed(p, b)[1:]))

    def test_two_different_strands_cross_an_even_number_of_times(self):
        for b in PANELS + SMALL:
            for i, j in itertools.combinations(range(min(panels.strands(b)[0], 8)), 2):
                self.assertEqual(panels.meets(i, j, b)[0] % 2, 0)


class Four(unittest.TestCase):
    """A crossing of two strands, broken, makes them one; one of a strand with itself parts it the one way alone."""

    def test_breaks(self):
        for b in PANELS[::2] + SMALL:
            (before,) = panels.strands(b)
            for p in crossings_of(b):
                (way,) = panels.parting(p, b)
                after = [panels.strands(panels.broken(b, [p, z])[1:])[0] - before for z in (1, 2)]
                _, one, two = panels.crossed(p, b)
                self.assertEqual(way == 0, one != two)
                self.assertEqual(after, {0: [-1, -1], 1: [1, 0], 2: [0, 1]}[way])


class Five(unittest.TestCase):
    """A weave takes turns just if it's the same in each part; two ways for each part; mended with the fewest changes."""

    def test_weaves(self):
        for b in SMALL:
            crossings = crossings_of(b)
            numbers = [panels.part(p, b)[0] for p in crossings]
            right = []
            for w in all_bits(len(crossings)):
                same = len(set(zip(numbers, w))) == len(set(numbers))
                self.assertEqual(panels.turns(b, w)[0], int(same))
                if same:
                    right.append(w)
            self.assertEqual(len(right), 2 ** panels.parts(b)[0])
            self.assertEqual(sorted(panels.weave(b, c)[1:] for c in all_bits(panels.parts(b)[0])), right)
            for w in all_bits(len(crossings)):
                changed, *mended = panels.mend(b, w)
                self.assertIn(mended, right)
                self.assertEqual(changed, sum(x != y for x, y in zip(w, mended)))
                self.assertEqual(changed, min(sum(x != y for x, y in zip(w, other)) for other in right))

    def test_over_and_under_along_each_course(self):
        for b in PANELS[::2]:
            w = panels.weave(b, some_bits(panels.parts(b)[0], 1))[1:]
            bits = dict(zip(crossings_of(b), w))
            for k in range(panels.strands(b)[0]):
                left = [e ^ 1 for e in panels.course(k, b)[1:]]
                overs = [(bits[p] + e) % 2 for e, p in ((e, side_place(e, b)) for e in left) if p in bits]
                self.assertEqual(overs, [1 - over for over in overs[1:] + overs[:1]])


class Six(unittest.TestCase):
    """Sets of strands and right marks are one to one; so as many marks are free as there are strands."""

    def test_all_sets_and_all_marks(self):
        for b in SMALL:
            count = b[4] * b[5] + b[6:].count(2)
            right = [m for m in all_bits(count) if panels.marked(b, m) == [1]]
            told = sorted(panels.marks(b, s)[1:] for s in all_bits(panels.strands(b)[0]))
            self.assertEqual(told, right)
            for m in right:
                self.assertEqual(panels.marks(b, panels.set_of(b, m)[1:])[1:], m)

    def test_free(self):
        for b in PANELS + SMALL:
            self.assertEqual(panels.free(b), panels.strands(b))

    def test_sums_of_sets_are_sums_of_marks(self):
        for b in PANELS:
            (count,) = panels.strands(b)
            s, z = some_bits(count, 1), some_bits(count, 2)
            added = panels.plus(b, panels.marks(b, s)[1:], panels.marks(b, z)[1:])[1:]
            self.assertEqual(panels.set_of(b, added)[1:], [x ^ y for x, y in zip(s, z)])


class Seven(unittest.TestCase):
    """No breaks leave fewer strands than groups; the told crossings are the fewest, and the first of these."""

    def test_all_breaks_of_small_panels(self):
        for b in small_panels(3) + [uniform(2, 2, 0), uniform(3, 2, 0)]:
            crossings = crossings_of(b)
            (least,) = panels.groups(b)
            left = {}
            for signs in itertools.product((0, 1, 2), repeat=len(crossings)):
                row = tuple(p for p, z in zip(crossings, signs) if z > 0)
                breaks = [number for p, z in zip(crossings, signs) if z > 0 for number in (p, z)]
                left.setdefault(row, []).append(panels.strands(panels.broken(b, breaks)[1:])[0])
            self.assertGreaterEqual(min(min(counts) for counts in left.values()), least)
            for n in range(least, panels.strands(b)[0] + 2):
                enough = [row for row, counts in left.items() if min(counts) <= n]
                told = tuple(panels.fewest(n, b)[1:])
                self.assertEqual(told, min(enough, key=lambda row: (len(row), row)))
                self.assertLessEqual(max(left[told]), n)


if __name__ == "__main__":
    unittest.main()
