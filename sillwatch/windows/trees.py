"""The trees of surfaces that are shown on a window: rows (surface, x, y, clip) in the places of the layout."""

from sillwatch.windows.frames import inside_of, output_of
from sillwatch.windows.rectangles import overlap

POPUP_BORDER = 2


def shown_rows(placed, desk, painting, view):
    """Return two lists of what is shown on a window.

    The first one has the rows of its own tree, and behind them those of its popups without a grant. The second one
    has for each popup with a grant its place, cut to the window's output, and the rows of its tree.
    """
    inside = inside_of(placed.frame)
    plain = _tree_rows(desk.surface_of(placed.window), painting, inside, inside)
    granted = []
    for _, surface, place, is_granted in desk.popup_rows(placed.window, view):
        if is_granted:
            cut = overlap(place, output_of(view.areas, placed.frame))
            granted.append((cut, _tree_rows(surface, painting, place, cut)))
        else:
            plain.extend(_tree_rows(surface, painting, place, overlap(place, inside)))
    return plain, granted


def bordered(place):
    """Return the place of a popup with the border around it."""
    x, y, width, height = place
    return x - POPUP_BORDER, y - POPUP_BORDER, width + 2 * POPUP_BORDER, height + 2 * POPUP_BORDER


def _tree_rows(surface, painting, corner, clip):
    return [(inner, corner[0] + x, corner[1] + y, clip) for inner, x, y in painting.tree_of(surface)]
