"""Frames that a user holds by a part, with the pointer.

What is held is a tuple (slot, window, part), with a part as `part_at` returns it.
"""

from sillwatch.devices.sight import is_window_shown
from sillwatch.windows.frames import is_large_enough, moved_frame, output_of, part_at, resized_frame
from sillwatch.windows.rectangles import has_point


def held_at(sight, slot, window, x, y):
    """Return what is held of the frame of a window with a press at a point."""
    return slot, window, part_at(sight.stack.find(slot, window).frame, x, y)


def drawn_deeds(held, sight, dx, dy):
    """Return what comes of a motion while a frame is held."""
    slot, window, part = held
    if part[0] not in ("move", "resize") or not is_window_shown(sight.scene, slot, window):
        return []
    frame = sight.stack.find(slot, window).frame
    if part[0] == "move":
        drawn = moved_frame(sight.areas, frame, dx, dy)
    else:
        least, largest = sight.desks[slot].limits_of(window)
        drawn = resized_frame(frame, part, dx, dy, least, largest)
    return [(slot, ("frame", window, drawn, False, None)), (slot, ("dismiss",))]


def let_go_deeds(held, sight, x, y):
    """Return what comes of the last release, at a point, while a frame is held."""
    slot, window, part = held
    if not is_window_shown(sight.scene, slot, window):
        return []
    placed = sight.stack.find(slot, window)
    if not has_point(placed.frame, x, y) or part_at(placed.frame, x, y)[0] != part[0]:
        return []
    if part[0] == "close":
        return [(slot, ("close", window))]
    if part[0] == "minimize":
        return [(slot, ("hide", window)), (slot, ("dismiss",))]
    if part[0] == "maximize":
        return _maximizing(placed, sight.areas) + [(slot, ("dismiss",))]
    return []


def _maximizing(placed, areas):
    """Return what maximizes a window, or gives it the frame of before; nothing if its output has no room."""
    if placed.maximized:
        return [(placed.slot, ("frame", placed.window, placed.before, False, None))]
    area = output_of(areas, placed.frame)
    if not is_large_enough(area):
        return []
    return [(placed.slot, ("frame", placed.window, area, True, placed.frame))]
