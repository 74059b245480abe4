"""Screens: what was painted last, and the pictures that are asked for."""

from sillwatch.errors import NoSuchPicture, OutsidePicture, TooManyPixels
from sillwatch.outputs import copied_outputs, output_fields
from sillwatch.regions.bands import common, rectangle_region, rectangles
from sillwatch.screens.colours import DESK
from sillwatch.screens.painting import composed, differing, repainted
from sillwatch.surfaces.pictures import Walk

MOST_PIXELS = 4096


class Screen:
    """What was painted last of an output: its pixels, and the rectangles of the units that were painted anew."""

    def __init__(self, output, pixels, painted_last):
        self.output = output
        self.pixels = pixels
        self.painted_last = painted_last


class Screens:
    """The outputs as they were painted last."""

    def __init__(self, outputs, layers):
        self._screens = {}
        self._layers = []
        self.paint(outputs, layers)

    def paint(self, outputs, layers):
        """Paint the outputs, as with a tick."""
        changed = differing(self._layers, layers)
        screens = {}
        for output in copied_outputs(outputs):
            before = self._screens.get(output.number)
            if before is None or output_fields(before.output) != output_fields(output):
                screens[output.number] = Screen(output, composed(output, layers), [output.area()])
            else:
                part = _cut_to(changed, output)
                pixels = repainted(output, before.pixels, layers, changed) if part else before.pixels
                screens[output.number] = Screen(output, pixels, part)
        self._screens = screens
        self._layers = list(layers)

    def picture(self, number, x, y, width, height):
        """Return the colours of a rectangle of what a screen was given, row by row."""
        screen = self._screen(number)
        output = screen.output
        walk = Walk(output.width * output.scale, output.height * output.scale, output.turn)
        if x + width > walk.width or y + height > walk.height:
            raise OutsidePicture("the rectangle reaches beyond the picture")
        if width * height > MOST_PIXELS:
            raise TooManyPixels("these are too many pixels")
        colours = []
        for row in range(y, y + height):
            colours.extend([screen.pixels[place] for place in walk.row_places(x, row, width)])
        return colours

    def painted(self, number):
        """Return the rectangles of the units of an output that were painted last."""
        return list(self._screen(number).painted_last)

    def _screen(self, number):
        if number not in self._screens:
            raise NoSuchPicture("no output with this number was painted last")
        return self._screens[number]


def captured(output, layers, x, y, width, height):
    """Return the octets of the picture of a capture: blue, green, red and opacity of each pixel, row by row."""
    columns = output.width * output.scale
    rows = output.height * output.scale
    pixels = composed(output, layers)
    octets = []
    for row in range(y, y + height):
        for column in range(x, x + width):
            is_inside = 0 <= row < rows and 0 <= column < columns
            colour = pixels[row * columns + column] if is_inside else DESK
            octets.extend(_colour_octets(colour))
    return octets


def _colour_octets(colour):
    return [colour & 255, colour >> 8 & 255, colour >> 16 & 255, colour >> 24]


def _cut_to(region, output):
    """Return the rectangles of a region within the area of an output."""
    area = output.area()
    return rectangles(common(region, rectangle_region(*area)))
