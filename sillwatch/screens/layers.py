"""The layers of windows: what is painted over what."""

from sillwatch.regions.bands import rectangle_region, united_all
from sillwatch.screens.colours import GROUND, slot_colour
from sillwatch.surfaces.contents import content_size
from sillwatch.windows.frames import inside_of
from sillwatch.windows.rectangles import has_squares, overlap
from sillwatch.windows.trees import bordered, shown_rows


class Layer:
    """A part of a window that is painted: where it can be seen, and its colour, or its place and content."""

    def __init__(self, what, region, colour, x, y, content):
        self.what = what
        self.region = region
        self.colour = colour
        self.x = x
        self.y = y
        self.content = content


def same_layer(a, b):
    """Tell whether two layers are painted alike."""
    if a.what != b.what or a.region != b.region:
        return False
    if a.what != "surface":
        return a.colour == b.colour
    return (a.x, a.y) == (b.x, b.y) and _same_look(a.content, b.content)


def window_layers(placed, desk, painting, view):
    """Return the layers of a shown window, from the lowest."""
    colour = slot_colour(placed.slot)
    plain, granted = shown_rows(placed, desk, painting, view)
    layers = [
        _plain_layer("frame", [placed.frame], colour),
        _plain_layer("inside", [inside_of(placed.frame)], GROUND),
    ]
    layers.extend(_surface_layers(plain, painting))
    places = [place for place, _ in granted if has_squares(place)]
    layers.append(_plain_layer("border", [bordered(place) for place in places], colour))
    layers.append(_plain_layer("ground", places, GROUND))
    for _, rows in granted:
        layers.extend(_surface_layers(rows, painting))
    return layers


def _same_look(a, b):
    """Tell whether two contents are painted alike; where they hear is not painted."""
    return (a.turn, a.scale) == (b.turn, b.scale) and a.picture.is_alike(b.picture)


def _plain_layer(what, rectangles, colour):
    """Return a layer of one colour that has the squares of rectangles."""
    regions = [rectangle_region(*rectangle) for rectangle in rectangles]
    region = regions[0] if len(regions) == 1 else united_all(regions)
    return Layer(what, region, colour, 0, 0, None)


def _surface_layers(rows, painting):
    """Return the layers of surfaces, cut to where they are shown."""
    layers = []
    for surface, x, y, clip in rows:
        content = painting.content_of(surface)
        width, height = content_size(content)
        seen = overlap((x, y, width, height), clip)
        layers.append(Layer("surface", rectangle_region(*seen), 0, x, y, content))
    return layers
