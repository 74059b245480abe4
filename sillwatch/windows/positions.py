"""Where popups stand."""

from sillwatch.windows.rectangles import overlap_axis


def place_axis(anchor, gravity, begin, length, size, offset, room, bits):
    """Return the beginning and the length of a popup, one way, for an anchor stretch, its own size and a room."""
    may_turn, may_slide, may_cut = bits
    first = _start(anchor, gravity, begin, length, size, offset)
    if _lies_in(first, size, room):
        return first, size
    if may_turn:
        turned = _start(-anchor, -gravity, begin, length, size, -offset)
        if _lies_in(turned, size, room):
            return turned, size
    if may_slide:
        first = _slid(gravity, first, size, room)
    if may_cut and not _lies_in(first, size, room):
        cut = overlap_axis(first, size, room[0], room[1])
        if cut[1] > 0:
            return cut
    return first, size


def place_popup(positioner, room):
    """Return the place of a popup from the corner of its parent, as the numbers of its positioner say."""
    ax, ay, aw, ah, anchor_x, anchor_y, gravity_x, gravity_y, width, height, dx, dy, adjust = positioner
    sideways = (adjust & 1 != 0, adjust & 4 != 0, adjust & 16 != 0)
    upright = (adjust & 2 != 0, adjust & 8 != 0, adjust & 32 != 0)
    x, placed_width = place_axis(anchor_x, gravity_x, ax, aw, width, dx, (room[0], room[2]), sideways)
    y, placed_height = place_axis(anchor_y, gravity_y, ay, ah, height, dy, (room[1], room[3]), upright)
    return x, y, placed_width, placed_height


def _start(anchor, gravity, begin, length, size, offset):
    """Return where a popup begins that is neither turned over nor slid."""
    point = begin
    if anchor == 0:
        point += length // 2
    elif anchor > 0:
        point += length
    if gravity < 0:
        point -= size
    elif gravity == 0:
        point -= size // 2
    return point + offset


def _lies_in(begin, length, room):
    return room[0] <= begin and begin + length <= room[0] + room[1]


def _slid(gravity, begin, size, room):
    # Where the popup is longer than the room, what is done last decides which of its ends is kept in.
    last = room[0] + room[1] - size
    if gravity < 0:
        return min(max(begin, room[0]), last)
    return max(min(begin, last), room[0])
