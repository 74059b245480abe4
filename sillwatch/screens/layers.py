"""The layers of windows: what is painted over what."""

from sillwatch.regions.bands import common, rectangle_region, united
from sillwatch.screens.colours import GROUND, slot_colour
from sillwatch.surfaces.contents import content_size
from sillwatch.windows.frames import inside_of
from sillwatch.windows.rectangles import has_squares
from sillwatch.windows.trees import bordered, granted_rows, plain_rows


class Layer:
    """A part of a window that is painted: where it can be seen, and its colour, or its place and content."""

    def __init__(self, what, region, colour, x, y, content):
        self.what = what
        self.region = region
        self.colour = colour
        self.x = x
        self.y = y
        self.content = content


def same_layer(a, b):
    """Tell whether two layers are painted alike."""
    if a.what != b.what or a.region != b.region:
        return False
    if a.what != "surface":
        return a.colour == b.colour
    return (a.x, a.y) == (b.x, b.y) and _same_look(a.content, b.content)


def window_layers(placed, desk, painting, view):
    """Return the layers of a shown window, from the lowest."""
    colour = slot_colour(placed.slot)
    layers = [
        _plain_layer("frame", [placed.frame], colour),
        _plain_layer("inside", [inside_of(placed.frame)], GROUND),
    ]
    layers.extend(_surface_layers(plain_rows(placed, desk, painting, view), painting))
    granted = granted_rows(placed, desk, painting, view)
    places = [place for place, _ in granted if has_squares(place)]
    layers.append(_plain_layer("border", [bordered(place) for place in places], colour))
    layers.append(_plain_layer("ground", places, GROUND))
    for _, rows in granted:
        layers.extend(_surface_layers(rows, painting))
    return layers


def _same_look(a, b):
    """Tell whether two contents are painted alike; where they hear is not painted."""
    if (a.turn, a.scale, a.picture.width, a.picture.height) != (b.turn, b.scale, b.picture.width, b.picture.height):
        return False
    return a.picture.pixels == b.picture.pixels


def _plain_layer(what, rectangles, colour):
    """Return a layer of one colour that has the squares of rectangles."""
    region = []
    for rectangle in rectangles:
        region = united(region, rectangle_region(*rectangle))
    return Layer(what, region, colour, 0, 0, None)


def _surface_layers(rows, painting):
    """Return the layers of surfaces, cut to where they are shown."""
    layers = []
    for surface, x, y, clip in rows:
        content = painting.content_of(surface)
        width, height = content_size(content)
        region = common(rectangle_region(x, y, width, height), rectangle_region(*clip))
        layers.append(Layer("surface", region, 0, x, y, content))
    return layers
