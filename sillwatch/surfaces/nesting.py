"""Surfaces in surfaces: how they are nested, and which commits come true together.

The surfaces of a program are a dict: number -> Surface.
"""

from sillwatch.surfaces.contents import change_without, changed_content, content_without

MOST_INSIDE = 16
MOST_NESTED = 8


def may_join(surfaces, number, parent):
    """Tell whether a surface may be put into another one."""
    if not surfaces[number].may_have("sub") or number in _chain(surfaces, parent):
        return False
    # The order of a surface has its own number too.
    if len(surfaces[parent].order) > MOST_INSIDE:
        return False
    return len(_chain(surfaces, parent)) + _height(surfaces, number) <= MOST_NESTED


def put_inside(surfaces, number, parent):
    """Put a surface into another one, on top of all that is in it."""
    surface = surfaces[number]
    surface.role = "sub"
    surface.is_held = True
    surface.parent = parent
    surface.is_free = False
    outer = surfaces[parent]
    outer.order.append(number)
    outer.places[number] = (0, 0)


def take_out(surfaces, number):
    """Take a surface out of its parent, also out of what the parent shows and what waits there."""
    surface = surfaces[number]
    parent = surfaces[surface.parent]
    parent.order.remove(number)
    del parent.places[number]
    parent.content = content_without(parent.content, number)
    if parent.waiting is not None:
        parent.waiting = change_without(parent.waiting, number)
    surface.parent = None


def set_beside(order, number, sibling, distance):
    """Put a number directly behind another one in an order (distance 1), or directly before it (distance 0)."""
    order.remove(number)
    order.insert(order.index(sibling) + distance, number)


def is_bound(surfaces, number):
    """Tell whether the commits of a surface wait for those of its parent."""
    surface = surfaces[number]
    if surface.parent is None:
        return False
    return not surface.is_free or is_bound(surfaces, surface.parent)


def coming_true(surfaces, number, change):
    """Return the rows (number, change) of what comes true, in order, when a change of a surface, or None, does."""
    content = surfaces[number].content
    rows = []
    if change is not None:
        content = changed_content(content, change)
        rows.append((number, change))
    for inner in content.order:
        if inner != number and is_bound(surfaces, inner):
            rows.extend(coming_true(surfaces, inner, surfaces[inner].waiting))
    return rows


def _chain(surfaces, number):
    """Return a surface and all surfaces in which it is, from the innermost."""
    chain = [number]
    while surfaces[chain[-1]].parent is not None:
        chain.append(surfaces[chain[-1]].parent)
    return chain


def _height(surfaces, number):
    """Return how many surfaces are nested in a surface, itself counted."""
    inner = [other for other in surfaces[number].order if other != number]
    return 1 + max([_height(surfaces, other) for other in inner], default=0)
