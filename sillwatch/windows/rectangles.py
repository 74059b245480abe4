"""Rectangles of the layout: tuples (x, y, width, height)."""


def overlap(a, b):
    """Return the part that two rectangles have in common; it has no squares if they have none in common."""
    left, width = overlap_axis(a[0], a[2], b[0], b[2])
    top, height = overlap_axis(a[1], a[3], b[1], b[3])
    return left, top, width, height


def overlap_axis(begin, length, other_begin, other_length):
    """Return the beginning and the length of what two stretches have in common."""
    first = max(begin, other_begin)
    return first, max(min(begin + length, other_begin + other_length) - first, 0)


def has_squares(rectangle):
    """Tell whether a rectangle has any square."""
    return rectangle[2] > 0 and rectangle[3] > 0


def has_all_of(rectangle, part):
    """Tell whether a rectangle has all squares of another one."""
    if part[0] < rectangle[0] or part[1] < rectangle[1]:
        return False
    return part[0] + part[2] <= rectangle[0] + rectangle[2] and part[1] + part[3] <= rectangle[1] + rectangle[3]


def has_point(rectangle, x, y):
    """Tell whether a place lies in a rectangle."""
    return rectangle[0] <= x < rectangle[0] + rectangle[2] and rectangle[1] <= y < rectangle[1] + rectangle[3]
