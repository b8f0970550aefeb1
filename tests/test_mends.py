"""Points 26 to 30: groups, group, fewest, broken, parting."""

import itertools
import unittest

from interlace.panels import broken, crossed, fewest, group, groups, parting, set_it, strands
from helpers import (
    ALL_SIZES, HEAD, MOST_NUMBER, crossed_strands, listed_places, mixed, mixed_panels, small_panels, some_bits,
    strand_groups, strand_pieces, uniform, uniform_panels,
)

PANELS = mixed_panels() + uniform_panels()
# Four crossings of two strands.
RING = HEAD + [2, 2, 0, 0, 0, 0]
# Two crossings, each of a strand with itself, in two groups.
APART = HEAD + [4, 1, 0, 1, 0]
SMALL = small_panels() + [uniform(3, 2, 0), uniform(3, 3, 0), mixed(3, 3, 1), mixed(3, 3, 2), mixed(2, 4, 2)]


def count_of_strands(b):
    return len(strand_pieces(b))


def breaks_of(places, ways):
    return [number for p, way in zip(places, ways) for number in (p, way)]


def with_breaks(b, places, ways):
    changed = list(b)
    for p, way in zip(places, ways):
        changed[6 + p] = way
    return changed


def all_ways(count):
    return list(itertools.product((1, 2), repeat=count))


class Groups(unittest.TestCase):
    def test_written_out(self):
        self.assertEqual(groups(HEAD + [1, 1]), [1])
        self.assertEqual(groups(RING), [1])
        self.assertEqual(groups(APART), [2])
        self.assertEqual(groups(HEAD + [2, 1, 1]), [2])
        self.assertEqual(groups(HEAD + [2, 1, 2]), [1])
        self.assertEqual([group(k, RING) for k in (0, 1)], [[0], [0]])
        self.assertEqual([group(k, APART) for k in (0, 1)], [[0], [1]])

    def test_one_kind_alone(self):
        for wide, high in ALL_SIZES:
            self.assertEqual(groups(uniform(wide, high, 0)), [1])
            # Without a crossing each strand is a group.
            self.assertEqual(groups(uniform(wide, high, 1)), [wide * high])
            self.assertEqual(groups(uniform(wide, high, 2)), [(wide - 1) * (high - 1) + 1])

    def test_every_size(self):
        for b in PANELS + small_panels():
            wanted = strand_groups(b)
            self.assertEqual(groups(b), [len(wanted)], b)
            for number, together in enumerate(wanted):
                for k in together:
                    self.assertEqual(group(k, b), [number], (b, k))

    def test_no_such_strand(self):
        for b in PANELS:
            count = count_of_strands(b)
            for k in (count, count + 1, MOST_NUMBER):
                self.assertEqual(group(k, b), [-4])


class Fewest(unittest.TestCase):
    def test_written_out(self):
        self.assertEqual(fewest(1, RING), [1, 0])
        self.assertEqual(fewest(2, RING), [0])
        self.assertEqual(fewest(0, RING), [-5])
        self.assertEqual(fewest(1, APART), [-5])
        self.assertEqual(fewest(2, APART), [0])
        self.assertEqual(fewest(0, HEAD + [1, 1]), [-5])
        self.assertEqual(fewest(1, HEAD + [1, 1]), [0])

    def test_the_first_crossings_that_hang_strands_together(self):
        for b in PANELS + small_panels():
            taken = []
            pairs = crossed_strands(b)
            for p in sorted(pairs):
                hung = taken + [p]
                ties = [pairs[q] for q in hung]
                if self.count_apart(b, ties) < self.count_apart(b, ties[:-1]):
                    taken = hung
            count = count_of_strands(b)
            for n in range(count - len(taken), count + 2):
                wanted = taken[:max(count - n, 0)]
                self.assertEqual(fewest(n, b), [len(wanted)] + wanted, (b, n))

    def count_apart(self, b, ties):
        """How many sets of strands there are that these pairs hang together."""
        labels = {k: k for k in range(count_of_strands(b))}
        for i, j in ties:
            labels = {k: labels[i] if label == labels[j] else label for k, label in labels.items()}
        return len(set(labels.values()))

    def test_n_below_at_and_above(self):
        for b in PANELS:
            count, least = count_of_strands(b), len(strand_groups(b))
            for n in range(least):
                self.assertEqual(fewest(n, b), [-5])
            self.assertEqual(fewest(least, b)[0], count - least)
            for n in (count, count + 1, count + 100, MOST_NUMBER):
                self.assertEqual(fewest(n, b), [0])

    def test_their_breaks_leave_n_whichever_way(self):
        for b in PANELS:
            count, least = count_of_strands(b), len(strand_groups(b))
            for n in range(least, count + 1):
                places = fewest(n, b)[1:]
                self.assertEqual(places, sorted(set(places)))
                for seed in range(2):
                    ways = [1 + bit for bit in some_bits(len(places), seed)]
                    self.assertEqual(count_of_strands(with_breaks(b, places, ways)), n, (b, n))

    def test_no_fewer_do_and_no_earlier_ones(self):
        for b in SMALL:
            crossings = sorted(crossed_strands(b))
            for n in range(len(strand_groups(b)), count_of_strands(b) + 1):
                count, *places = fewest(n, b)
                for ways in all_ways(count):
                    self.assertLessEqual(count_of_strands(with_breaks(b, places, ways)), n)
                # Rows of as few and of fewer crossings, the earliest first, each broken every way.
                enough = [
                    list(row) for size in range(count + 1) for row in itertools.combinations(crossings, size)
                    if any(count_of_strands(with_breaks(b, row, ways)) <= n for ways in all_ways(size))
                ]
                self.assertEqual(enough[0], places, (b, n))

    def test_no_breaks_leave_fewer_than_the_groups(self):
        for b in small_panels():
            crossings = sorted(crossed_strands(b))
            for signs in itertools.product((0, 1, 2), repeat=len(crossings)):
                self.assertGreaterEqual(count_of_strands(with_breaks(b, crossings, signs)), groups(b)[0])


class Broken(unittest.TestCase):
    def test_written_out(self):
        self.assertEqual(broken(RING, []), [10] + RING)
        self.assertEqual(broken(RING, [0, 1]), [10] + HEAD + [2, 2, 1, 0, 0, 0])
        self.assertEqual(broken(RING, [3, 2, 0, 1]), [10] + HEAD + [2, 2, 1, 0, 0, 2])
        self.assertEqual(broken(APART, [2, 2]), [9] + HEAD + [4, 1, 0, 1, 2])
        self.assertEqual(broken(HEAD + [1, 1], []), [6] + HEAD + [1, 1])

    def test_every_size(self):
        for b in PANELS:
            crossings = sorted(crossed_strands(b))
            for seed in range(3):
                ways = [1 + bit for bit in some_bits(len(crossings), seed)]
                some = [row for row, bit in zip(zip(crossings, ways), some_bits(len(crossings), seed + 9)) if bit]
                places, ways = [p for p, _ in some], [way for _, way in some]
                wanted = with_breaks(b, places, ways)
                self.assertEqual(broken(b, breaks_of(places, ways)), [len(b)] + wanted)
                # In whatever order they stand.
                self.assertEqual(broken(b, breaks_of(places[::-1], ways[::-1])), [len(b)] + wanted)

    def test_one_break_is_set(self):
        for b in PANELS[::4]:
            for p in crossed_strands(b):
                for way in (1, 2):
                    self.assertEqual(broken(b, [p, way]), set_it(p, way, b))

    def test_all_112_crossings(self):
        b = uniform(8, 8, 0)
        breaks = breaks_of(range(112), [2] * 112)
        self.assertEqual(broken(b, breaks), [118] + uniform(8, 8, 2))
        self.assertEqual(broken(b, breaks + [0, 2]), [-9])

    def test_an_odd_number_of_numbers(self):
        for wrong in ([0], [1], [0, 1, 1], [0, 1, 2], [0, 1, 1, 2, 3]):
            self.assertEqual(broken(RING, wrong), [-9])
        self.assertEqual(broken(HEAD + [1, 1], [0]), [-9])

    def test_a_place_twice(self):
        for b in PANELS[::5]:
            crossings = sorted(crossed_strands(b))
            for p in crossings[:1] + crossings[-1:]:
                for one in (1, 2):
                    for two in (1, 2):
                        self.assertEqual(broken(b, [p, one, p, two]), [-9])
                others = [q for q in crossings if q != p]
                breaks = [p, 1] + breaks_of(others, [1] * len(others)) + [p, 1]
                self.assertEqual(broken(b, breaks), [-9])
                self.assertGreater(broken(b, breaks[2:])[0], 0)

    def test_a_place_where_no_crossing_stands(self):
        for b in PANELS:
            for p in range(len(b) - 6):
                if b[6 + p] != 0:
                    self.assertEqual(broken(b, [p, 1]), [-9])
                    self.assertEqual(broken(b, [p, 2]), [-9])
            for p in (len(b) - 6, len(b) - 5, MOST_NUMBER, MOST_NUMBER - 5):
                self.assertEqual(broken(b, [p, 1]), [-9])

    def test_a_way_that_is_neither(self):
        for b in [RING, uniform(8, 8, 0), mixed(5, 6, 2)]:
            for p in crossed_strands(b):
                for way in (0, 3, 4, 256, MOST_NUMBER):
                    self.assertEqual(broken(b, [p, way]), [-9])
        self.assertEqual(broken(RING, [0, 1, 1, 0]), [-9])
        self.assertEqual(broken(RING, [0, 1, 1, 3]), [-9])
        self.assertEqual(broken(RING, [0, 3, 1, 1]), [-9])


class Parting(unittest.TestCase):
    def test_written_out(self):
        self.assertEqual(parting(0, HEAD + [2, 1, 0]), [1])
        self.assertEqual(parting(0, HEAD + [1, 2, 0]), [1])
        self.assertEqual([parting(p, RING) for p in range(4)], [[0]] * 4)
        self.assertEqual([parting(p, APART) for p in range(3)], [[1], [-5], [1]])

    def test_every_place(self):
        seen = set()
        for b in PANELS + small_panels():
            pairs = crossed_strands(b)
            for p in range(len(b) - 6):
                if p not in pairs:
                    self.assertEqual(parting(p, b), [-5])
                elif p % 3 == 0 or len(b) < 30:
                    self.check(p, b, seen)
        self.assertEqual(seen, {0, 1, 2})

    def check(self, p, b, seen):
        (told,) = parting(p, b)
        seen.add(told)
        before = count_of_strands(b)
        after = {way: count_of_strands(with_breaks(b, [p], [way])) - before for way in (1, 2)}
        if crossed(p, b)[1] != crossed(p, b)[2]:
            self.assertEqual((told, after), (0, {1: -1, 2: -1}))
        else:
            self.assertEqual(after, {told: 1, 3 - told: 0})

    def test_refusals(self):
        for wide, high in ALL_SIZES:
            count = len(listed_places(wide, high))
            for sign in (0, 1, 2):
                for p in (count, count + 1, MOST_NUMBER):
                    self.assertEqual(parting(p, uniform(wide, high, sign)), [-4])
                if sign > 0 and count > 0:
                    self.assertEqual(parting(count - 1, uniform(wide, high, sign)), [-5])

    def test_strands_are_counted_so_too(self):
        b = uniform(8, 7, 0)
        for p in range(97):
            (told,) = parting(p, b)
            self.assertEqual(strands(broken(b, [p, told])[1:]), [2])
            self.assertEqual(strands(broken(b, [p, 3 - told])[1:]), [1])


if __name__ == "__main__":
    unittest.main()
