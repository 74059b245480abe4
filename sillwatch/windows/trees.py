"""The trees of surfaces that are shown on a window: rows (surface, x, y, clip) in the places of the layout."""

from sillwatch.windows.frames import inside_of, output_of
from sillwatch.windows.rectangles import overlap

POPUP_BORDER = 2


def plain_rows(placed, desk, painting, view):
    """Return the rows of a window's own tree, and behind them those of its popups without a grant."""
    inside = inside_of(placed.frame)
    rows = _tree_rows(window_surface(desk, placed.window), painting, inside, inside)
    for _, surface, place, granted in desk.popup_rows(placed.window, view):
        if not granted:
            rows.extend(_tree_rows(surface, painting, place, overlap(place, inside)))
    return rows


def granted_rows(placed, desk, painting, view):
    """Return for each popup with a grant its place, cut to the window's output, and the rows of its tree."""
    area = output_of(view.areas, placed.frame)
    found = []
    for _, surface, place, granted in desk.popup_rows(placed.window, view):
        if granted:
            cut = overlap(place, area)
            found.append((cut, _tree_rows(surface, painting, place, cut)))
    return found


def window_surface(desk, window):
    """Return the surface of a window, or None if there is no such window."""
    for number, surface, _, _ in desk.window_rows():
        if number == window:
            return surface
    return None


def bordered(place):
    """Return the place of a popup with the border around it."""
    x, y, width, height = place
    return x - POPUP_BORDER, y - POPUP_BORDER, width + 2 * POPUP_BORDER, height + 2 * POPUP_BORDER


def _tree_rows(surface, painting, corner, clip):
    return [(inner, corner[0] + x, corner[1] + y, clip) for inner, x, y in painting.tree_of(surface)]
