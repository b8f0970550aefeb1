"""Mends: breaks of crossings, by which strands come to be one or are parted."""

from interlace.crossings import find_crossed, list_crossed, list_crossings
from interlace.hanging import tie
from interlace.shape import ACROSS, ALONG, PLACES_AT
from interlace.tracing import count_strands


def list_ties(b):
    """Give the crossings, rising, whose two strands do not hang together yet by those given before."""
    labels = list(range(count_strands(b)))
    taken = []
    for p, pair in zip(list_crossings(b), list_crossed(b)):
        if labels[pair[0]] != labels[pair[1]]:
            labels = tie(labels, pair[0], pair[1])
            taken.append(p)
    return taken


def list_fewest(n, b):
    """Give the fewest crossings by whose breaks no more than n strands are left, n being no less than the groups."""
    return list_ties(b)[:max(count_strands(b) - n, 0)]


def are_breaks(b, l):
    """Tell whether l is breaks of the panel: of each a crossing's place, no place twice, and a way."""
    if len(l) % 2 == 1:
        return False
    left = list_crossings(b)
    for at in range(0, len(l), 2):
        if l[at] not in left or l[at + 1] not in (ALONG, ACROSS):
            return False
        left.remove(l[at])
    return True


def break_crossings(b, l):
    """Give the panel's bytes with the breaks l."""
    changed = list(b)
    for at in range(0, len(l), 2):
        changed[PLACES_AT + l[at]] = l[at + 1]
    return changed


def find_parting_way(p, b):
    """Give the way by which the crossing at place p is broken to part its strand, or 0 if it is of two strands."""
    pair = find_crossed(p, b)
    if pair[0] != pair[1]:
        return 0
    along = break_crossings(b, [p, ALONG])
    return ALONG if count_strands(along) > count_strands(b) else ACROSS
