"""The pixels of outputs: layers painted over one another."""

from sillwatch.regions.bands import common, rectangle_region, rectangles, united_all
from sillwatch.screens.blending import Blend
from sillwatch.screens.boxes import boxes_around
from sillwatch.screens.colours import DESK, OPAQUE, over
from sillwatch.screens.layers import same_layer
from sillwatch.screens.samples import Samples, sample_places
from sillwatch.windows.rectangles import has_all_of, has_squares, overlap


def composed(output, layers):
    """Return the pixels of the picture of an output, row by row."""
    blank = [DESK] * (output.width * output.scale * output.height * output.scale)
    area = output.area()
    return repainted(output, blank, layers, rectangle_region(*area))


def repainted(output, pixels, layers, region):
    """Return new pixels, in which those of the units of a region are made anew."""
    area = output.area()
    part = rectangles(common(region, rectangle_region(*area)))
    # A few larger boxes are made faster than many small rectangles, and then the rectangles are cut out of them.
    made = list(pixels)
    for box in boxes_around(part):
        _make_box(output, made, layers, box)
    painted = list(pixels)
    for rectangle in part:
        for begin, end in _pixel_rows(output, rectangle):
            painted[begin:end] = made[begin:end]
    return painted


def differing(before, after):
    """Return the region that must be painted again where the layers before become those after."""
    regions = []
    for old, new in zip(before, after):
        if not same_layer(old, new):
            regions.extend([old.region, new.region])
    many = min(len(before), len(after))
    regions.extend([layer.region for layer in before[many:] + after[many:]])
    return united_all(regions)


def _make_box(output, made, layers, box):
    """Make all pixels of a rectangle of units anew."""
    _paint_colour(output, made, box, DESK)
    for layer, seen in _parts_in(layers, box):
        if layer.what == "surface":
            _paint_surface(output, made, seen, layer)
        else:
            _paint_colour(output, made, seen, layer.colour)


def _parts_in(layers, box):
    """Return rows (layer, rectangle) of the parts of layers in a box, from the lowest.

    Parts of which nothing can be seen, because all of them lies below one opaque rectangle, are left out.
    """
    parts = []
    covers = []
    for layer in reversed(layers):
        for rectangle in rectangles(layer.region):
            part = overlap(rectangle, box)
            if has_squares(part) and not any([has_all_of(cover, part) for cover in covers]):
                parts.append((layer, part))
                if layer.what != "surface" and layer.colour >= OPAQUE:
                    covers.append(part)
    parts.reverse()
    return parts


def _paint_colour(output, made, rectangle, colour):
    """Paint a rectangle of units in one colour."""
    if colour < OPAQUE:
        for begin, end in _pixel_rows(output, rectangle):
            made[begin:end] = [over(colour, below) for below in made[begin:end]]
        return
    row = [colour] * (rectangle[2] * output.scale)
    for begin, end in _pixel_rows(output, rectangle):
        made[begin:end] = row


def _paint_surface(output, made, rectangle, layer):
    """Paint a surface in a rectangle of units."""
    x, y, width, height = rectangle
    content = layer.content
    samples = Samples(content, output.scale, x - layer.x, width)
    rows = sample_places(y - layer.y, height, content.scale, output.scale)
    blend = Blend()
    for row, (begin, end) in zip(rows, _pixel_rows(output, rectangle)):
        made[begin:end] = blend.painted(samples.row(row), made[begin:end])


def _pixel_rows(output, rectangle):
    """Return the pairs (begin, end) of the places in an output's pixels of each pixel row of units."""
    x, y, width, height = rectangle
    n = output.scale
    left = (x - output.x) * n
    top = (y - output.y) * n
    starts = [row * output.width * n + left for row in range(top, top + height * n)]
    return [(start, start + width * n) for start in starts]
