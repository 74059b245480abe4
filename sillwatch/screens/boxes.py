"""Boxes: rectangles around groups of rectangles."""


def boxes_around(parts):
    """Return boxes that have all squares of some rectangles, and altogether at most twice as many squares."""
    boxes = []
    counts = []
    for part in parts:
        squares = part[2] * part[3]
        at = _place_for(part, boxes, counts)
        if at is None:
            boxes.append(part)
            counts.append(squares)
        else:
            boxes[at] = _box_around(boxes[at], part)
            counts[at] += squares
    return boxes


def _place_for(part, boxes, counts):
    """Return the index of the first box that a rectangle can join, or None."""
    squares = part[2] * part[3]
    for at, box in enumerate(boxes):
        _, _, width, height = _box_around(box, part)
        if width * height <= 2 * (counts[at] + squares):
            return at
    return None


def _box_around(a, b):
    """Return the smallest rectangle that has the squares of two others."""
    left = min(a[0], b[0])
    top = min(a[1], b[1])
    right = max(a[0] + a[2], b[0] + b[2])
    bottom = max(a[1] + a[3], b[1] + b[3])
    return left, top, right - left, bottom - top
