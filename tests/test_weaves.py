"""Points 16 to 20: part, weave, turns, over, mend."""

import unittest

from interlace.panels import crossed, mend, over, part, parts, size, turns, weave
from helpers import (
    ALL_SIZES, HEAD, MOST_NUMBER, all_bits, crossed_strands, crossing_parts, listed_places, mixed, mixed_panels,
    small_panels, some_bits, uniform, uniform_panels, walked_passes, wrong_bits,
)

PANELS = mixed_panels() + [uniform(wide, high, 0) for wide, high in ALL_SIZES]
WITHOUT_CROSSING = [HEAD + [1, 1], uniform(2, 1, 1), uniform(3, 3, 2), uniform(8, 8, 1), uniform(8, 8, 2)]
# Four crossings of two strands.
RING = HEAD + [2, 2, 0, 0, 0, 0]
# Two crossings, each of a strand with itself, in two parts.
APART = HEAD + [4, 1, 0, 1, 0]


def wrong_first(b, w):
    """The answer of turns, by the document's words."""
    bits = dict(zip(sorted(crossed_strands(b)), w))
    for number, passes in enumerate(walked_passes(b)):
        overs = [(p, bits[p] == 1 if last == 0 else bits[p] == 0) for p, last in passes]
        for (p, one), (q, two) in zip(overs, overs[1:] + overs[:1]):
            if one == two:
                return [0, number, p, q]
    return [1]


def same_in_each_part(b, w):
    bits = dict(zip(sorted(crossed_strands(b)), w))
    return all(len({bits[p] for p in together}) == 1 for together in crossing_parts(b))


def flipped(w, at):
    return w[:at] + [1 - w[at]] + w[at + 1:]


class Part(unittest.TestCase):
    def test_written_out(self):
        self.assertEqual([part(p, RING) for p in range(4)], [[0]] * 4)
        self.assertEqual([part(p, APART) for p in range(3)], [[0], [-5], [1]])
        self.assertEqual(part(0, HEAD + [2, 1, 0]), [0])

    def test_every_place(self):
        for b in PANELS + small_panels():
            number_of = {p: number for number, together in enumerate(crossing_parts(b)) for p in together}
            for p in range(len(b) - 6):
                self.assertEqual(part(p, b), [number_of.get(p, -5)], (b, p))

    def test_numbered_by_their_least_places(self):
        for b in PANELS:
            found = [part(p, b)[0] for p in range(len(b) - 6) if b[6 + p] == 0]
            self.assertEqual(list(dict.fromkeys(found)), list(range(parts(b)[0])))

    def test_refusals(self):
        for wide, high in ALL_SIZES:
            count = len(listed_places(wide, high))
            for sign in (0, 1, 2):
                for p in (count, count + 1, MOST_NUMBER):
                    self.assertEqual(part(p, uniform(wide, high, sign)), [-4])
                if sign > 0 and count > 0:
                    self.assertEqual(part(count - 1, uniform(wide, high, sign)), [-5])


class Weave(unittest.TestCase):
    def test_written_out(self):
        self.assertEqual(weave(RING, [0]), [4, 0, 0, 0, 0])
        self.assertEqual(weave(RING, [1]), [4, 1, 1, 1, 1])
        self.assertEqual(weave(APART, [0, 1]), [2, 0, 1])
        self.assertEqual(weave(APART, [1, 0]), [2, 1, 0])

    def test_every_size(self):
        for b in PANELS + small_panels():
            together = crossing_parts(b)
            for c in all_bits(len(together))[:8] + [some_bits(len(together), 3)]:
                bits = {p: c[number] for number, places in enumerate(together) for p in places}
                wanted = [bits[p] for p in sorted(bits)]
                self.assertEqual(weave(b, c), [len(wanted)] + wanted)

    def test_a_made_weave_takes_turns(self):
        for b in PANELS + small_panels():
            for c in all_bits(parts(b)[0])[:8]:
                self.assertEqual(turns(b, weave(b, c)[1:]), [1])

    def test_without_a_crossing(self):
        for b in WITHOUT_CROSSING:
            self.assertEqual(weave(b, []), [0])
            self.assertEqual(weave(b, [0]), [-9])

    def test_a_wrong_choice(self):
        for b in PANELS[::3] + WITHOUT_CROSSING:
            for c in wrong_bits(len(crossing_parts(b))):
                self.assertEqual(weave(b, c), [-9], (b, c))


class Turns(unittest.TestCase):
    def test_written_out(self):
        self.assertEqual(turns(RING, [0, 0, 0, 0]), [1])
        self.assertEqual(turns(RING, [1, 1, 1, 1]), [1])
        self.assertEqual(turns(RING, [1, 0, 0, 0]), [0, 0, 0, 3])
        self.assertEqual(turns(RING, [0, 1, 0, 0]), [0, 0, 3, 1])
        self.assertEqual(turns(RING, [0, 0, 1, 0]), [0, 0, 1, 2])
        self.assertEqual(turns(RING, [0, 0, 0, 1]), [0, 0, 0, 3])
        self.assertEqual(turns(RING, [1, 0, 0, 1]), [0, 0, 3, 1])

    def test_a_strand_with_one_crossing(self):
        for bit in (0, 1):
            self.assertEqual(turns(HEAD + [2, 1, 0], [bit]), [1])
            self.assertEqual(turns(HEAD + [1, 2, 0], [bit]), [1])
        for w in all_bits(2):
            self.assertEqual(turns(APART, w), [1])

    def test_without_a_crossing(self):
        for b in WITHOUT_CROSSING:
            self.assertEqual(turns(b, []), [1])

    def test_all_weaves_of_small_panels(self):
        for b in small_panels() + [uniform(3, 2, 0), uniform(2, 3, 0), mixed(3, 3, 2), mixed(4, 2, 1)]:
            for w in all_bits(size(b)[4]):
                answer = turns(b, w)
                self.assertEqual(answer, wrong_first(b, w), (b, w))
                self.assertEqual(answer == [1], same_in_each_part(b, w))

    def test_weaves_of_every_size(self):
        firsts = set()
        for b in PANELS:
            for seed in range(2):
                w = some_bits(size(b)[4], seed)
                answer = turns(b, w)
                self.assertEqual(answer, wrong_first(b, w), (b, w))
                self.assertEqual(answer == [1], same_in_each_part(b, w))
                firsts.add(answer[1] if answer[0] == 0 else None)
        self.assertLessEqual({None, 0, 1, 2}, firsts)

    def test_one_bit_changed_at_each_crossing(self):
        for wide, high in ALL_SIZES:
            b = mixed(wide, high, wide + high)
            together = crossing_parts(b)
            right = weave(b, some_bits(len(together), 1))[1:]
            alone = [places[0] for places in together if len(places) == 1]
            for at, p in enumerate(sorted(crossed_strands(b))):
                answer = turns(b, flipped(right, at))
                self.assertEqual(answer[0], 1 if p in alone else 0, (b, p))
                if wide * high <= 30:
                    self.assertEqual(answer, wrong_first(b, flipped(right, at)))
                if p not in alone:
                    self.assertIn(p, answer[2:])
                    self.assertIn(answer[1], crossed_strands(b)[p])

    def test_a_wrong_weave(self):
        for b in PANELS[::3] + WITHOUT_CROSSING:
            for w in wrong_bits(len(crossed_strands(b))):
                self.assertEqual(turns(b, w), [-9], (b, w))


class Over(unittest.TestCase):
    def test_written_out(self):
        self.assertEqual([over(p, RING, [1, 1, 1, 1]) for p in range(4)], [[1], [1], [0], [0]])
        self.assertEqual([over(p, RING, [0, 0, 0, 0]) for p in range(4)], [[0], [0], [1], [1]])
        self.assertEqual([over(p, RING, [0, 1, 1, 0]) for p in range(4)], [[0], [1], [0], [1]])
        self.assertEqual([over(p, APART, [0, 1]) for p in range(3)], [[0], [-5], [1]])

    def test_every_place(self):
        for b in PANELS + small_panels():
            pairs = crossed_strands(b)
            w = some_bits(len(pairs), 5)
            bits = dict(zip(sorted(pairs), w))
            for p in range(len(b) - 6):
                wanted = [pairs[p][1 - bits[p]]] if p in pairs else [-5]
                self.assertEqual(over(p, b, w), wanted, (b, p))

    def test_either_bit_tells_one_of_both(self):
        for b in PANELS[::4]:
            count = size(b)[4]
            for p in crossed_strands(b):
                self.assertEqual([0] + over(p, b, [1] * count) + over(p, b, [0] * count), crossed(p, b))

    def test_no_such_place(self):
        for b in PANELS + uniform_panels():
            w = [0] * size(b)[4]
            for p in (len(b) - 6, len(b) - 5, MOST_NUMBER):
                self.assertEqual(over(p, b, w), [-4])

    def test_a_wrong_weave_ahead_of_the_place(self):
        for b in PANELS[::3] + WITHOUT_CROSSING:
            for w in wrong_bits(len(crossed_strands(b))):
                for p in (0, len(b) - 7, len(b) - 6, MOST_NUMBER):
                    self.assertEqual(over(max(p, 0), b, w), [-9])

    def test_no_crossing(self):
        self.assertEqual(over(0, HEAD + [2, 1, 1], []), [-5])
        self.assertEqual(over(0, HEAD + [2, 1, 2], []), [-5])
        self.assertEqual(over(1, HEAD + [2, 1, 2], []), [-4])
        self.assertEqual(over(0, HEAD + [2, 1, 2], [0]), [-9])


class Mend(unittest.TestCase):
    def test_written_out(self):
        self.assertEqual(mend(RING, [0, 0, 0, 0]), [0, 0, 0, 0, 0])
        self.assertEqual(mend(RING, [0, 1, 0, 0]), [1, 0, 0, 0, 0])
        self.assertEqual(mend(RING, [0, 1, 0, 1]), [2, 0, 0, 0, 0])
        self.assertEqual(mend(RING, [1, 1, 0, 1]), [1, 1, 1, 1, 1])
        self.assertEqual(mend(APART, [0, 1]), [0, 0, 1])

    def test_without_a_crossing(self):
        for b in WITHOUT_CROSSING:
            self.assertEqual(mend(b, []), [0])

    def test_every_size(self):
        for b in PANELS:
            for seed in range(3):
                w = some_bits(size(b)[4], seed)
                bits = dict(zip(sorted(crossed_strands(b)), w))
                wanted = dict(bits)
                for places in crossing_parts(b):
                    ones = sum(bits[p] for p in places)
                    wanted.update({p: int(ones > len(places) - ones) for p in places})
                changed = sum(1 for p in bits if bits[p] != wanted[p])
                self.assertEqual(mend(b, w), [changed] + [wanted[p] for p in sorted(wanted)], (b, w))

    def test_a_mended_weave_takes_turns_and_needs_no_mending(self):
        for b in PANELS:
            mended = mend(b, some_bits(size(b)[4], 4))[1:]
            self.assertEqual(turns(b, mended), [1])
            self.assertEqual(mend(b, mended), [0] + mended)

    def test_the_fewest_changes(self):
        for b in small_panels() + [uniform(3, 2, 0), mixed(3, 3, 2), mixed(4, 2, 1)]:
            count = size(b)[4]
            right = [w for w in all_bits(count) if turns(b, w) == [1]]
            self.assertEqual(len(right), len(all_bits(parts(b)[0])))
            for w in all_bits(count):
                told = mend(b, w)
                changes = [sum(one != two for one, two in zip(w, other)) for other in right]
                self.assertEqual(told[0], min(changes))
                # Of weaves with as few changes the one with 0 in the parts that could have either.
                first = min(other for other, number in zip(right, changes) if number == min(changes))
                self.assertEqual(told[1:], first)

    def test_as_many_of_both(self):
        for b in PANELS:
            w = [0] * size(b)[4]
            place_at = {p: at for at, p in enumerate(sorted(crossed_strands(b)))}
            for places in crossing_parts(b):
                for p in places[len(places) - len(places) // 2:]:
                    w[place_at[p]] = 1
            self.assertEqual(mend(b, w), [sum(w)] + [0] * len(w))

    def test_a_wrong_weave(self):
        for b in PANELS[::3] + WITHOUT_CROSSING:
            for w in wrong_bits(len(crossed_strands(b))):
                self.assertEqual(mend(b, w), [-9], (b, w))


if __name__ == "__main__":
    unittest.main()
