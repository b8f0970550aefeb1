"""What hangs together: groups of strands that cross, parts of crossings that have strands in common."""

from interlace.crossings import list_crossed
from interlace.tracing import count_strands


def tie(labels, i, j):
    """Give the labels with all that hang together with i or with j under one, their least."""
    least = min(labels[i], labels[j])
    most = max(labels[i], labels[j])
    return [least if label == most else label for label in labels]


def number_labels(labels):
    """Give a number in the place of each label, from 0 on as the labels first come."""
    numbers = {}
    for label in labels:
        if label not in numbers:
            numbers[label] = len(numbers)
    return [numbers[label] for label in labels]


def label_strands(b):
    """Give for each strand the least strand that it hangs together with."""
    labels = list(range(count_strands(b)))
    for pair in list_crossed(b):
        labels = tie(labels, pair[0], pair[1])
    return labels


def list_groups(b):
    """Give the group of each strand, by the strands' numbers."""
    return number_labels(label_strands(b))


def count_groups(b):
    """Count the groups of a right panel."""
    return max(list_groups(b)) + 1


def list_parts(b):
    """Give the part of each crossing, by the crossings' places."""
    # Crossings hang together just if their strands do, so a part goes by the label of a strand of it.
    labels = label_strands(b)
    return number_labels([labels[pair[0]] for pair in list_crossed(b)])


def count_parts(b):
    """Count the parts of a right panel."""
    return max(list_parts(b), default=-1) + 1
