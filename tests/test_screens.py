"""Points 95 to 100: painting with each tick, what was painted, pictures, and pictures of captures."""

import copy
import random
import unittest

from sillwatch.errors import NoSuchPicture, OutsidePicture, TooManyPixels
from sillwatch.outputs import Output
from sillwatch.regions.bands import rectangle_region, rectangles, united
from sillwatch.screens.colours import DESK
from sillwatch.screens.layers import Layer
from sillwatch.screens.painting import composed
from sillwatch.screens.screens import Screens, captured
from sillwatch.surfaces.contents import Content
from sillwatch.surfaces.pictures import Picture
from tests.helpers import error_class_of

RED, GREEN, BLUE = 0xFFFF0000, 0xFF00FF00, 0xFF0000FF
OUTPUT = Output(3, 10, 20, 6, 4, 1, 0)


def plain(x, y, width, height, colour=RED, what="frame"):
    return Layer(what, rectangle_region(x, y, width, height), colour, 0, 0, None)


def surface(x, y, width, height, pixels=None, seen=None):
    """Return the layer of a surface whose pixels are all different."""
    if pixels is None:
        pixels = [0xFF000000 + 1000 * at for at in range(width * height)]
    content = Content(Picture(width, height, pixels), 0, 1, None, [1], {})
    region = rectangle_region(x, y, width, height) if seen is None else rectangle_region(*seen)
    return Layer("surface", region, 0, x, y, content)


def whole(screens, output):
    """Return all pixels of what a screen was given, in portions that are not too large."""
    width, height = output.width * output.scale, output.height * output.scale
    if output.turn % 2 == 1:
        width, height = height, width
    pixels = []
    for row in range(height):
        pixels += screens.picture(output.number, 0, row, width, 1)
    return pixels


def values(layers):
    return [copy.deepcopy((layer.what, layer.region, layer.colour, layer.x, layer.y)) for layer in layers]


class Painting(unittest.TestCase):
    def paint(self, screens, outputs, layers):
        before = ([vars(output).copy() for output in outputs], values(layers))
        screens.paint(outputs, layers)
        self.assertEqual(([vars(output) for output in outputs], values(layers)), before)
        for output in outputs:
            pixels = composed(output, layers)
            given = Picture(output.width * output.scale, output.height * output.scale, pixels).turned(output.turn)
            self.assertEqual(whole(screens, output), given.pixels)

    def check(self, before, after, painted):
        """Check what is painted of the output when some layers become others."""
        screens = Screens([OUTPUT], before)
        self.assertEqual(screens.painted(3), [(10, 20, 6, 4)])
        self.paint(screens, [OUTPUT], after)
        self.assertEqual(screens.painted(3), painted)
        self.paint(screens, [OUTPUT], after)
        self.assertEqual(screens.painted(3), [])

    def test_a_new_one_has_painted_all(self):
        other = Output(0, 16, 20, 2, 2, 2, 5)
        screens = Screens([OUTPUT, other], [plain(10, 20, 7, 1)])
        self.assertEqual((screens.painted(3), screens.painted(0)), ([(10, 20, 6, 4)], [(16, 20, 2, 2)]))
        self.assertEqual(whole(screens, OUTPUT), [RED] * 6 + [DESK] * 18)
        # The unit in the upper left corner comes to the right by the mirror, and down by the quarter.
        self.assertEqual(whole(screens, other), [DESK] * 8 + [DESK, DESK, RED, RED] * 2)

    def test_layers_that_stay(self):
        layers = [plain(10, 20, 3, 3), surface(11, 21, 2, 2)]
        self.check(layers, layers, [])
        self.check(layers, [plain(10, 20, 3, 3), surface(11, 21, 2, 2)], [])
        self.check([], [], [])

    def test_layers_that_come_and_go(self):
        self.check([], [plain(11, 21, 2, 2)], [(11, 21, 2, 2)])
        self.check([plain(11, 21, 2, 2)], [], [(11, 21, 2, 2)])
        kept = plain(10, 20, 1, 1)
        self.check([kept], [kept, surface(12, 22, 2, 1)], [(12, 22, 2, 1)])
        # They are compared place by place.
        self.check([kept, plain(12, 22, 2, 1)], [plain(12, 22, 2, 1)], [(10, 20, 1, 1), (12, 22, 2, 1)])

    def test_layers_that_change_places(self):
        a, b = plain(10, 20, 2, 1, RED), plain(11, 20, 2, 1, GREEN)
        self.check([a, b], [b, a], [(10, 20, 3, 1)])

    def test_layers_that_change(self):
        self.check([plain(10, 20, 2, 1)], [plain(10, 20, 2, 1, GREEN)], [(10, 20, 2, 1)])
        self.check([plain(10, 20, 2, 1)], [plain(11, 20, 2, 1)], [(10, 20, 3, 1)])
        self.check([plain(10, 20, 2, 1)], [plain(10, 20, 2, 1, RED, "inside")], [(10, 20, 2, 1)])
        one, two = surface(10, 20, 2, 2, [RED] * 4), surface(10, 20, 2, 2, [RED, RED, RED, GREEN])
        self.check([one], [two], [(10, 20, 2, 2)])
        self.check([one], [surface(11, 20, 2, 2, [RED] * 4)], [(10, 20, 3, 2)])
        self.check([one], [surface(10, 20, 2, 2, [RED] * 4, (10, 20, 1, 2))], [(10, 20, 2, 2)])

    def test_what_lies_beyond_the_output(self):
        self.check([], [plain(5, 5, 7, 17)], [(10, 20, 2, 2)])
        self.check([], [plain(0, 0, 5, 5)], [])

    def test_rectangles(self):
        layers = [plain(10, 20, 1, 1), plain(12, 20, 1, 2), plain(15, 23, 9, 9)]
        region = []
        for layer in layers:
            region = united(region, layer.region)
        expected = [(10, 20, 1, 1), (12, 20, 1, 1), (12, 21, 1, 1), (15, 23, 1, 1)]
        self.assertEqual(rectangles(region)[:3], expected[:3])
        self.check([], layers, expected)

    def test_outputs_that_come_and_go(self):
        other = Output(4, 0, 0, 3, 3, 1, 0)
        layers = [plain(0, 0, 2, 2)]
        screens = Screens([OUTPUT], layers)
        self.paint(screens, [OUTPUT, other], layers)
        self.assertEqual((screens.painted(3), screens.painted(4)), ([], [(0, 0, 3, 3)]))
        self.paint(screens, [other], [])
        self.assertEqual(screens.painted(4), [(0, 0, 2, 2)])
        self.assertIs(error_class_of(screens.painted, 3), NoSuchPicture)
        self.assertIs(error_class_of(screens.picture, 3, 0, 0, 1, 1), NoSuchPicture)
        # It was not painted last time.
        self.paint(screens, [other, OUTPUT], [])
        self.assertEqual((screens.painted(3), screens.painted(4)), ([(10, 20, 6, 4)], []))

    def test_outputs_that_change_places(self):
        other = Output(4, 0, 0, 3, 3, 1, 0)
        screens = Screens([OUTPUT, other], [])
        self.paint(screens, [other, OUTPUT], [])
        self.assertEqual((screens.painted(3), screens.painted(4)), ([], []))

    def test_outputs_that_change_in_a_field(self):
        for field, value in [("number", 5), ("x", 11), ("y", 19), ("width", 5), ("height", 5), ("scale", 2), ("turn", 1)]:
            with self.subTest(field=field):
                screens = Screens([OUTPUT], [plain(10, 20, 2, 2)])
                changed = copy.copy(OUTPUT)
                setattr(changed, field, value)
                self.paint(screens, [changed], [plain(10, 20, 2, 2)])
                self.assertEqual(screens.painted(changed.number), [changed.area()])
                self.paint(screens, [changed], [plain(10, 20, 2, 2)])
                self.assertEqual(screens.painted(changed.number), [])

    def test_an_output_that_its_owner_changes(self):
        output = copy.copy(OUTPUT)
        screens = Screens([output], [])
        output.turn = 2
        self.paint(screens, [output], [])
        self.assertEqual(screens.painted(3), [(10, 20, 6, 4)])

    def test_many_paintings(self):
        source = random.Random(4)
        outputs = [Output(0, 0, 0, 7, 5, 2, 3), Output(1, 7, 0, 4, 4, 1, 6)]
        screens = Screens(outputs, [])
        for _ in range(60):
            layers = []
            for _ in range(source.randrange(4)):
                x, y = source.randrange(-3, 10), source.randrange(-3, 5)
                width, height = source.randrange(1, 5), source.randrange(1, 5)
                if source.random() < 0.5:
                    layers.append(plain(x, y, width, height, source.choice([RED, GREEN, 0x80402010])))
                else:
                    pixels = [source.choice([RED, 0, 0x40102030]) for _ in range(width * height)]
                    layers.append(surface(x, y, width, height, pixels))
            self.paint(screens, outputs, layers)


class Pictures(unittest.TestCase):
    def setUp(self):
        self.layers = [surface(10, 20, 6, 4)]
        self.pixels = [0xFF000000 + 1000 * at for at in range(24)]

    def test_parts(self):
        screens = Screens([OUTPUT], self.layers)
        self.assertEqual(screens.picture(3, 0, 0, 6, 4), self.pixels)
        self.assertEqual(screens.picture(3, 2, 1, 2, 2), [self.pixels[at] for at in (8, 9, 14, 15)])
        self.assertEqual(screens.picture(3, 5, 3, 1, 1), [self.pixels[23]])

    def test_each_turn_and_scale(self):
        for turn in range(8):
            for scale in range(1, 5):
                output = Output(3, 10, 20, 6, 4, scale, turn)
                screens = Screens([output], self.layers)
                picture = Picture(6 * scale, 4 * scale, composed(output, self.layers)).turned(turn)
                self.assertEqual(whole(screens, output), picture.pixels)
                self.assertEqual(screens.picture(3, 1, 2, 3, 2), [
                    picture.colour_at(x, y) for y in (2, 3) for x in (1, 2, 3)
                ])
                self.assertIs(error_class_of(screens.picture, 3, 0, 0, picture.width + 1, 1), OutsidePicture)
                self.assertIs(error_class_of(screens.picture, 3, 0, 0, 1, picture.height + 1), OutsidePicture)

    def test_a_quarter(self):
        screens = Screens([Output(3, 10, 20, 6, 4, 1, 1)], self.layers)
        # The top comes to the right.
        self.assertEqual(screens.picture(3, 0, 0, 4, 1), [self.pixels[at] for at in (18, 12, 6, 0)])

    def test_outside(self):
        screens = Screens([OUTPUT], [])
        for rectangle in [(6, 0, 1, 1), (0, 4, 1, 1), (5, 0, 2, 1), (0, 3, 1, 2), (99, 99, 1, 1)]:
            self.assertIs(error_class_of(screens.picture, 3, *rectangle), OutsidePicture)

    def test_how_many_pixels(self):
        output = Output(0, 0, 0, 128, 128, 1, 0)
        screens = Screens([output], [])
        self.assertEqual(screens.picture(0, 0, 64, 64, 64), [DESK] * 4096)
        self.assertEqual(screens.picture(0, 0, 96, 128, 32), [DESK] * 4096)
        self.assertIs(error_class_of(screens.picture, 0, 0, 0, 64, 65), TooManyPixels)
        self.assertIs(error_class_of(screens.picture, 0, 0, 0, 128, 33), TooManyPixels)
        screens = Screens([Output(0, 0, 0, 17, 241, 1, 0)], [])
        self.assertEqual(len(screens.picture(0, 0, 1, 17, 240)), 4080)
        self.assertIs(error_class_of(screens.picture, 0, 0, 0, 17, 241), TooManyPixels)

    def test_of_two_errors_the_first(self):
        screens = Screens([Output(0, 0, 0, 128, 128, 1, 0)], [])
        self.assertIs(error_class_of(screens.picture, 0, 0, 0, 129, 128), OutsidePicture)
        self.assertIs(error_class_of(screens.picture, 1, 0, 0, 129, 128), NoSuchPicture)
        self.assertIs(error_class_of(screens.picture, 1, 0, 0, 1, 1), NoSuchPicture)
        self.assertIs(error_class_of(screens.painted, 1), NoSuchPicture)

    def test_what_is_returned_is_new(self):
        screens = Screens([OUTPUT], self.layers)
        screens.picture(3, 0, 0, 6, 4).clear()
        screens.painted(3).clear()
        self.assertEqual(screens.picture(3, 0, 0, 6, 4), self.pixels)
        self.assertEqual(screens.painted(3), [(10, 20, 6, 4)])


class Captured(unittest.TestCase):
    def colours(self, octets):
        return [octets[at] + octets[at + 1] * 2 ** 8 + octets[at + 2] * 2 ** 16 + octets[at + 3] * 2 ** 24
                for at in range(0, len(octets), 4)]

    def test_octets(self):
        octets = captured(OUTPUT, [plain(10, 20, 1, 1, 0xFF112233)], 0, 0, 2, 1)
        self.assertEqual(octets, [0x33, 0x22, 0x11, 0xFF, 48, 32, 32, 255])

    def test_parts(self):
        layers = [surface(10, 20, 6, 4)]
        found = self.colours(captured(OUTPUT, layers, 1, 2, 3, 2))
        self.assertEqual(found, [0xFF000000 + 1000 * at for at in (13, 14, 15, 19, 20, 21)])

    def test_beyond_the_output(self):
        layers = [plain(0, 0, 100, 100)]
        inside = [[0 <= x < 6 and 0 <= y < 4 for x in range(-2, 8)] for y in range(-1, 6)]
        found = self.colours(captured(OUTPUT, layers, -2, -1, 10, 7))
        self.assertEqual(found, [RED if is_inside else DESK for row in inside for is_inside in row])
        for x, y in [(6, 0), (0, 4), (-1, 0), (0, -1), (-2 ** 31, 0), (2 ** 31 - 1, 2 ** 31 - 1)]:
            self.assertEqual(self.colours(captured(OUTPUT, layers, x, y, 1, 1)), [DESK])

    def test_it_is_not_turned(self):
        layers = [surface(10, 20, 6, 4)]
        for turn in range(8):
            output = Output(3, 10, 20, 6, 4, 1, turn)
            self.assertEqual(captured(output, layers, 0, 0, 6, 4), captured(OUTPUT, layers, 0, 0, 6, 4))

    def test_scales(self):
        output = Output(3, 10, 20, 6, 4, 3, 0)
        layers = [surface(10, 20, 6, 4)]
        pixels = composed(output, layers)
        found = self.colours(captured(output, layers, 4, 5, 7, 3))
        self.assertEqual(found, [pixels[y * 18 + x] for y in (5, 6, 7) for x in range(4, 11)])

    def test_no_layers(self):
        self.assertEqual(self.colours(captured(OUTPUT, [], 0, 0, 2, 2)), [DESK] * 4)


if __name__ == "__main__":
    unittest.main()
