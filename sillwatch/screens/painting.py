"""The pixels of outputs: layers painted over one another."""

from sillwatch.regions.bands import common, rectangle_region, rectangles, united
from sillwatch.screens.colours import DESK, OPAQUE, over
from sillwatch.screens.layers import same_layer


def composed(output, layers):
    """Return the pixels of the picture of an output, row by row."""
    blank = [DESK] * (output.width * output.scale * output.height * output.scale)
    area = output.area()
    return repainted(output, blank, layers, rectangle_region(*area))


def repainted(output, pixels, layers, region):
    """Return new pixels, in which those of the units of a region are made anew."""
    painted = list(pixels)
    area = output.area()
    part = common(region, rectangle_region(*area))
    for rectangle in rectangles(part):
        _paint_colour(output, painted, rectangle, DESK)
    for layer in layers:
        seen = rectangles(common(layer.region, part))
        if layer.what != "surface":
            for rectangle in seen:
                _paint_colour(output, painted, rectangle, layer.colour)
        elif seen:
            picture = layer.content.picture.turned(layer.content.turn)
            for rectangle in seen:
                _paint_surface(output, painted, rectangle, layer, picture)
    return painted


def differing(before, after):
    """Return the region that must be painted again where the layers before become those after."""
    region = []
    for old, new in zip(before, after):
        if not same_layer(old, new):
            region = united(united(region, old.region), new.region)
    many = min(len(before), len(after))
    for layer in before[many:] + after[many:]:
        region = united(region, layer.region)
    return region


def _paint_colour(output, painted, rectangle, colour):
    for begin, end in _pixel_rows(output, rectangle):
        if colour >= OPAQUE:
            painted[begin:end] = [colour] * (end - begin)
        else:
            painted[begin:end] = [over(colour, below) for below in painted[begin:end]]


def _paint_surface(output, painted, rectangle, layer, picture):
    """Paint a surface, with its turned picture, in a rectangle of units."""
    x, y, width, height = rectangle
    columns = _samples(x - layer.x, width, layer.content.scale, output.scale)
    rows = _samples(y - layer.y, height, layer.content.scale, output.scale)
    for row, (begin, end) in zip(rows, _pixel_rows(output, rectangle)):
        colours = [picture.colour_at(column, row) for column in columns]
        painted[begin:end] = [
            colour if colour >= OPAQUE else over(colour, below) for colour, below in zip(colours, painted[begin:end])
        ]


def _samples(first, many, scale, output_scale):
    """Return for each pixel of some units the place in the picture, one way, that is painted there."""
    return [
        scale * (2 * way + 1) // (2 * output_scale)
        for way in range(first * output_scale, (first + many) * output_scale)
    ]


def _pixel_rows(output, rectangle):
    """Return the pairs (begin, end) of the places in an output's pixels of each pixel row of units."""
    x, y, width, height = rectangle
    n = output.scale
    left = (x - output.x) * n
    top = (y - output.y) * n
    starts = [row * output.width * n + left for row in range(top, top + height * n)]
    return [(start, start + width * n) for start in starts]
