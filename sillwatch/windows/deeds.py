"""What the requests of a window wish of its frame and its place in the stack."""

from sillwatch.windows.frames import (
    can_be_caught, frame_of, grown_frame, inside_of, is_large_enough, output_of, placed_frame, restored_frame,
)

_SPEND = ("spend",)


def deed_wishes(request, view):
    """Return the wishes of a request of a window; none if it does nothing."""
    placed = view.own_windows.get(request.number)
    if placed is None:
        return []
    if request.name == "smaller":
        return _smaller(placed, request.arguments)
    if request.name == "restore":
        return _restore(placed)
    # The others need the grant, whose serial is their last argument.
    if view.grant is None or request.arguments[-1] != view.grant:
        return []
    if request.name == "raise":
        return [("raise", request.number), _SPEND]
    if placed.maximized:
        return []
    if request.name == "grow":
        width, height, _ = request.arguments
        frame = grown_frame(view.areas, placed.frame, width, height)
        return [("frame", request.number, frame, False, None), _SPEND]
    return _maximize(placed, view)


def first_frame(name, size, count, view):
    """Return the frame of a window that is mapped, and the frame of before if it is maximized, otherwise None."""
    width, height = size
    kept = _kept_under(name, view.kept)
    if kept is not None:
        _, frame, before = kept
        if can_be_caught(view.areas, frame) and is_large_enough(frame):
            return frame, before
        _, _, width, height = inside_of(frame)
    return placed_frame(view.areas[0], count, width, height), None


def _smaller(placed, size):
    width, height = size
    x, y, present_width, present_height = inside_of(placed.frame)
    frame = frame_of((x, y, width, height))
    if width > present_width or height > present_height or not is_large_enough(frame):
        return []
    return [("frame", placed.window, frame, placed.maximized, placed.before)]


def _restore(placed):
    if not placed.maximized:
        return []
    return [("frame", placed.window, restored_frame(placed.frame, placed.before), False, None)]


def _maximize(placed, view):
    area = output_of(view.areas, placed.frame)
    if not is_large_enough(area):
        return [_SPEND]
    return [("frame", placed.window, area, True, placed.frame), _SPEND]


def _kept_under(name, kept):
    """Return the first row that is kept under a name, or None; nothing is kept under an empty name."""
    if name == "":
        return None
    for row in kept:
        if row[0] == name:
            return row
    return None
