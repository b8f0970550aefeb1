"""Strands: found and numbered by following joined ends."""

from interlace.ends import count_pieces, find_joined, find_other_end


def walk_course(e, b):
    """Give the ends at which the pieces of a strand are entered, from end e on."""
    course = [e]
    entered = find_joined(find_other_end(e), b)
    while entered != e:
        course.append(entered)
        entered = find_joined(find_other_end(entered), b)
    return course


def list_courses(b):
    """Give the course of each strand, by the strands' numbers."""
    courses = []
    seen = {}
    for i in range(count_pieces(b)):
        if i not in seen:
            course = walk_course(2 * i, b)
            courses.append(course)
            for e in course:
                seen[e // 2] = True
    return courses


def list_strands(b):
    """Give the number of the strand of each piece, by the pieces."""
    strand_of_piece = [0] * count_pieces(b)
    for number, course in enumerate(list_courses(b)):
        for e in course:
            strand_of_piece[e // 2] = number
    return strand_of_piece


def count_strands(b):
    """Count the strands of a right panel."""
    return len(list_courses(b))
