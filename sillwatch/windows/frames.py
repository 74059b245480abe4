"""Frames of windows: rectangles of the layout with a title bar and a border."""

from sillwatch.windows.rectangles import has_point, has_squares, overlap

BORDER = 2
TITLE_BAR = 10
LEAST_SIDE = 16
LONGEST_SIDE = 4096
PLACING_STEP = 24
PLACING_PLACES = 8
CAUGHT_COLUMNS = 16
# The width of a button of the title bar, and of the sides that resize.
GRIP = 10


def inside_of(frame):
    """Return the inside of a frame."""
    x, y, width, height = frame
    return x + BORDER, y + TITLE_BAR, width - 2 * BORDER, height - TITLE_BAR - BORDER


def frame_of(inside):
    """Return the frame around an inside."""
    x, y, width, height = inside
    return x - BORDER, y - TITLE_BAR, width + 2 * BORDER, height + TITLE_BAR + BORDER


def put_into(area, frame):
    """Return a frame moved just so far that it lies in the area of an output, as far as it is not longer."""
    x, y, width, height = frame
    return _put_axis(area[0], area[2], x, width), _put_axis(area[1], area[3], y, height), width, height


def placed_frame(area, count, width, height):
    """Return the frame by the rule, for the area of the first output, a count of windows and a surface's size."""
    way = PLACING_STEP * (count % PLACING_PLACES)
    return put_into(area, _sized_frame(area, (area[0] + way, area[1] + way), width, height))


def can_be_caught(areas, frame):
    """Tell whether enough of the title bar of a frame lies in one output."""
    x, y, width, _ = frame
    for area in areas:
        _, _, columns, rows = overlap(area, (x, y, width, TITLE_BAR))
        if columns >= CAUGHT_COLUMNS and rows == TITLE_BAR:
            return True
    return False


def output_of(areas, frame):
    """Return the area of the output of a window: where the corner of its frame lies, otherwise the first one."""
    for area in areas:
        if has_point(area, frame[0], frame[1]):
            return area
    return areas[0]


def grown_frame(areas, frame, width, height):
    """Return the frame of a window whose inside gets a size, as far as its output has room for it."""
    area = output_of(areas, frame)
    return put_into(area, _sized_frame(area, frame, width, height))


def restored_frame(frame, before):
    """Return the part of the frame of before that lies in the present one, or the present one if that is too small."""
    part = overlap(frame, before)
    return part if is_large_enough(part) else frame


def is_large_enough(frame):
    """Tell whether the inside of a frame is as wide and as high as one must be."""
    _, _, width, height = inside_of(frame)
    return width >= LEAST_SIDE and height >= LEAST_SIDE


def meets(area, frame):
    """Tell whether an area and a frame have a square in common."""
    return has_squares(overlap(area, frame))


def part_at(frame, x, y):
    """Return the part of a frame at a place: a tuple (name, horizontal, vertical)."""
    left, top, width, height = frame
    from_right = left + width - 1 - x
    if y < top + TITLE_BAR:
        return _button_at(from_right), 0, 0
    horizontal = 0
    if x - left < GRIP:
        horizontal = -1
    elif from_right < GRIP:
        horizontal = 1
    vertical = 1 if top + height - 1 - y < GRIP else 0
    return "resize", horizontal, vertical


def moved_frame(areas, frame, dx, dy):
    """Return a frame that is moved as far as it can be caught behind it."""
    x, y, width, height = frame
    if not can_be_caught(areas, frame):
        return x + dx, y + dy, width, height
    for way_x, way_y in ((dx, dy), (dx, 0), (0, dy)):
        moved = (x + way_x, y + way_y, width, height)
        if can_be_caught(areas, moved):
            return moved
    return frame


def resized_frame(frame, part, dx, dy, least, largest):
    """Return a frame that is resized at a part, within the least and the largest size of its inside."""
    x, y, width, height = inside_of(frame)
    _, horizontal, vertical = part
    right = x + width
    if horizontal != 0:
        width = _kept_length(width + horizontal * dx, least[0], largest[0])
    if horizontal < 0:
        x = right - width
    if vertical > 0:
        height = _kept_length(height + dy, least[1], largest[1])
    return frame_of((x, y, width, height))


def _put_axis(area_begin, area_length, begin, length):
    # A frame that is longer than the output begins where the output does, so the beginning is looked at last.
    return max(min(begin, area_begin + area_length - length), area_begin)


def _sized_frame(area, corner, width, height):
    """Return the frame at a corner with an inside of a size, as far as the output of the area has room for it."""
    _, _, room_width, room_height = inside_of(area)
    inside_width = max(min(width, room_width), LEAST_SIDE)
    inside_height = max(min(height, room_height), LEAST_SIDE)
    return frame_of((corner[0] + BORDER, corner[1] + TITLE_BAR, inside_width, inside_height))


def _button_at(from_right):
    """Return the name of the part of the title bar so many columns before the last one."""
    if from_right < GRIP:
        return "close"
    if from_right < 2 * GRIP:
        return "maximize"
    if from_right < 3 * GRIP:
        return "minimize"
    return "move"


def _kept_length(length, least, largest):
    if largest != 0:
        length = min(length, largest)
    return min(max(length, least, LEAST_SIDE), LONGEST_SIDE)
