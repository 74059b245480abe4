"""The scene: the windows that are shown, what they cover, and what is hit."""

from sillwatch.windows.frames import inside_of
from sillwatch.windows.rectangles import has_point, has_squares, overlap
from sillwatch.windows.trees import bordered, shown_rows


class Shown:
    """A surface that is shown: its corner in the layout, and a rectangle outside of which it is not shown."""

    def __init__(self, surface, x, y, clip):
        self.surface = surface
        self.x = x
        self.y = y
        self.clip = clip


class SceneWindow:
    """A window that is shown, with what is shown on it."""

    def __init__(self, slot, window, frame, plain, granted):
        self.slot = slot
        self.window = window
        self.frame = frame
        self.plain = plain
        self.granted = granted


def scene_of(stack, paintings, desks, views):
    """Return the scene from the bottom, for lists by slots."""
    scene = []
    for placed in stack.placed_rows():
        if not placed.hidden:
            slot = placed.slot
            scene.append(_scene_window(placed, desks[slot], paintings[slot], views[slot]))
    return scene


def covers_of(scene, areas):
    """Return the rows (slot, window, frame, rectangles) of what each window covers on the outputs."""
    rows = []
    for shown in scene:
        cut = [overlap(rectangle, area) for rectangle in _covered(shown) for area in areas]
        rectangles = [rectangle for rectangle in cut if has_squares(rectangle)]
        rows.append((shown.slot, shown.window, shown.frame, rectangles))
    return rows


def top_cover(covers, x, y):
    """Return the last row of covers that has a point in one of its rectangles, or None."""
    for row in reversed(covers):
        if _has_point_in(row[3], x, y):
            return row
    return None


def hit_at(scene, paintings, x, y):
    """Return what is hit at a point, a tuple (kind, slot, window, surface, x, y), or None."""
    for shown in reversed(scene):
        if _has_point_in(_covered(shown), x, y):
            return _hit_on(shown, paintings[shown.slot], x, y)
    return None


def _scene_window(placed, desk, painting, view):
    plain, granted = shown_rows(placed, desk, painting, view)
    seen = [(place, _shown_list(rows)) for place, rows in granted if has_squares(place)]
    return SceneWindow(placed.slot, placed.window, placed.frame, _shown_list(plain), seen)


def _shown_list(rows):
    return [Shown(surface, x, y, clip) for surface, x, y, clip in rows]


def _covered(shown):
    """Return the rectangles that a window covers."""
    return [shown.frame] + [bordered(place) for place, _ in shown.granted]


def _has_point_in(rectangles, x, y):
    return any([has_point(rectangle, x, y) for rectangle in rectangles])


def _hit_on(shown, painting, x, y):
    """Return what is hit of the topmost window at a point."""
    for _, rows in reversed(shown.granted):
        hit = _hearing_at(shown, rows, painting, x, y)
        if hit is not None:
            return hit
    if _has_point_in(_covered(shown)[1:], x, y):
        return "ground", shown.slot, shown.window, 0, 0, 0
    if not has_point(inside_of(shown.frame), x, y):
        return "frame", shown.slot, shown.window, 0, 0, 0
    hit = _hearing_at(shown, shown.plain, painting, x, y)
    return ("ground", shown.slot, shown.window, 0, 0, 0) if hit is None else hit


def _hearing_at(shown, rows, painting, x, y):
    """Return the hit of the topmost surface of rows that hears at a point, or None."""
    for row in reversed(rows):
        if has_point(row.clip, x, y) and painting.hears_at(row.surface, x - row.x, y - row.y):
            return "surface", shown.slot, shown.window, row.surface, x - row.x, y - row.y
    return None
