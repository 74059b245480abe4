"""Points 98 and 99: the pixels of an output, and what is painted again."""

import copy
import random
import unittest

from sillwatch.outputs import Output
from sillwatch.regions.bands import rectangle_region, united
from sillwatch.screens.layers import Layer
from sillwatch.screens.painting import composed, differing, repainted
from sillwatch.surfaces.contents import Content, content_size
from sillwatch.surfaces.pictures import Picture
from tests.test_bands import squares_of
from tests.test_colours import expected_over

DESK = 0xFF202030
RED, BLUE, VEIL = 0xFFC80000, 0xFF0000C8, 0x80402010


def plain(what, colour, *rectangles):
    region = []
    for rectangle in rectangles:
        region = united(region, rectangle_region(*rectangle))
    return Layer(what, region, colour, 0, 0, None)


def shown(content, x, y, *rectangles):
    """Return the layer of a surface that is seen in rectangles, or in all of its size."""
    whole = [(x, y, *content_size(content))]
    return Layer("surface", plain("", 0, *(rectangles or whole)).region, 0, x, y, content)


def content_of(picture, turn=0, scale=1):
    return Content(picture, turn, scale, None, [5], {})


def numbered(width, height, opacity=255):
    return Picture(width, height, [opacity * 2 ** 24 + at + 1 for at in range(width * height)])


def expected_pixel(output, layers, px, py):
    """Return the colour of a pixel as point 98 tells it."""
    n = output.scale
    unit = (output.x + px // n, output.y + py // n)
    colour = DESK
    for layer in layers:
        if unit not in squares_of(layer.region):
            continue
        if layer.what == "surface":
            s = layer.content.scale
            dx, dy = px - (layer.x - output.x) * n, py - (layer.y - output.y) * n
            picture = layer.content.picture.turned(layer.content.turn)
            place = (s * (2 * dx + 1) // (2 * n), s * (2 * dy + 1) // (2 * n))
            colour = expected_over(picture.colour_at(*place), colour)
        else:
            colour = expected_over(layer.colour, colour)
    return colour


def expected_pixels(output, layers):
    n = output.scale
    return [expected_pixel(output, layers, px, py) for py in range(output.height * n) for px in range(output.width * n)]


def random_layer(source):
    rectangle = [source.randint(-8, 2), source.randint(-8, 2), source.randint(0, 9), source.randint(0, 9)]
    if source.random() < 0.4:
        colour = source.choice([RED, BLUE, VEIL, 0, source.getrandbits(32)])
        return plain(source.choice(["frame", "inside", "border", "ground"]), colour, rectangle)
    scale = source.randint(1, 3)
    width, height = scale * source.randint(1, 4), scale * source.randint(1, 4)
    pixels = [source.choice([0, RED, source.getrandbits(32)]) for _ in range(width * height)]
    content = content_of(Picture(width, height, pixels), source.randint(0, 7), scale)
    x, y = source.randint(-8, 2), source.randint(-8, 2)
    size = content_size(content)
    squares = squares_of(rectangle_region(x, y, *size)) & squares_of(rectangle_region(*rectangle))
    return shown(content, x, y, *[(a, b, 1, 1) for a, b in squares] or [(0, 0, 0, 0)])


class PaintingTest(unittest.TestCase):
    def compose(self, output, layers):
        before = [copy.deepcopy((layer.region, layer.content and layer.content.picture.pixels)) for layer in layers]
        pixels = composed(output, layers)
        after = [(layer.region, layer.content and layer.content.picture.pixels) for layer in layers]
        self.assertEqual(after, before)
        return pixels


class Composing(PaintingTest):
    def test_without_layers(self):
        self.assertEqual(self.compose(Output(0, 5, 6, 3, 2, 1, 0), []), [DESK] * 6)
        self.assertEqual(self.compose(Output(0, 5, 6, 3, 2, 2, 1), []), [DESK] * 24)

    def test_one_colour(self):
        output = Output(0, 10, 20, 3, 2, 1, 0)
        self.assertEqual(self.compose(output, [plain("frame", RED, (11, 20, 9, 1))]), [DESK, RED, RED, DESK, DESK, DESK])
        layers = [plain("frame", RED, (0, 0, 12, 99)), plain("inside", BLUE, (11, 21, 5, 5))]
        self.assertEqual(self.compose(output, layers), [RED, RED, DESK, RED, BLUE, BLUE])
        layers.reverse()
        self.assertEqual(self.compose(output, layers), [RED, RED, DESK, RED, RED, BLUE])

    def test_what_lies_below(self):
        # An opaque colour hides all below it, one that is not opaque hides nothing, and two hide together.
        output = Output(0, 0, 0, 4, 2, 1, 0)
        veil = shown(content_of(Picture(4, 2, [VEIL] * 8)), 0, 0)
        clear = shown(content_of(Picture(4, 2, [0] * 8)), 0, 0)
        whole = (0, 0, 4, 2)
        for layers in [
            [plain("frame", RED, whole), veil, plain("inside", BLUE, whole)],
            [plain("frame", RED, whole), veil, plain("inside", BLUE, (0, 0, 3, 2))],
            [plain("frame", RED, whole), veil, plain("inside", BLUE, (1, 0, 3, 1), (0, 1, 2, 1))],
            [plain("frame", RED, whole), veil, plain("inside", VEIL, whole)],
            [plain("frame", RED, whole), plain("inside", 0xFEFFFFFF, whole)],
            [veil, plain("frame", RED, (0, 0, 2, 2)), plain("inside", BLUE, (2, 0, 2, 2)), veil],
            [plain("frame", RED, whole), clear], [plain("frame", RED, whole), clear, plain("inside", BLUE, (0, 0, 4, 1))],
            [plain("frame", RED, whole), plain("inside", BLUE, (0, 0, 4, 1)), plain("frame", RED, whole), veil],
            [plain("frame", RED, (-9, -9, 99, 99)), plain("inside", BLUE, (-1, -1, 9, 9)), veil],
        ]:
            self.assertEqual(self.compose(output, layers), expected_pixels(output, layers))

    def test_no_squares(self):
        output = Output(0, 10, 20, 3, 2, 1, 0)
        self.assertEqual(self.compose(output, [plain("border", RED)]), [DESK] * 6)
        self.assertEqual(self.compose(output, [plain("border", RED, (13, 20, 9, 9), (0, 0, 10, 99))]), [DESK] * 6)

    def test_a_colour_over_another(self):
        output = Output(0, 0, 0, 1, 1, 1, 0)
        layers = [plain("frame", RED, (0, 0, 1, 1)), plain("inside", VEIL, (0, 0, 1, 1))]
        self.assertEqual(self.compose(output, layers), [expected_over(VEIL, RED)])

    def test_scales_of_outputs(self):
        content = content_of(Picture(2, 1, [RED, BLUE]))
        self.assertEqual(self.compose(Output(0, 0, 0, 2, 1, 2, 0), [shown(content, 0, 0)]), [RED, RED, BLUE, BLUE] * 2)
        self.assertEqual(self.compose(Output(0, 0, 0, 2, 1, 3, 0), [shown(content, 1, 0)]), ([DESK] * 3 + [RED] * 3) * 3)

    def test_scales_of_pictures(self):
        content = content_of(numbered(4, 4), 0, 2)
        output = Output(0, 0, 0, 2, 2, 2, 0)
        self.assertEqual(self.compose(output, [shown(content, 0, 0)]), content.picture.pixels)
        output = Output(0, 0, 0, 2, 2, 1, 0)
        # The middle of a unit lies just at the beginning of the second colour.
        self.assertEqual([pixel & 255 for pixel in self.compose(output, [shown(content, 0, 0)])], [6, 8, 14, 16])

    def test_turns_of_outputs_change_nothing(self):
        layers = [plain("frame", RED, (0, 0, 2, 1)), shown(content_of(numbered(2, 3)), 1, 1)]
        expected = self.compose(Output(0, 0, 0, 4, 3, 2, 0), layers)
        for turn in range(8):
            self.assertEqual(self.compose(Output(0, 0, 0, 4, 3, 2, turn), layers), expected)

    def test_turns_of_pictures(self):
        picture = numbered(3, 2)
        for turn in range(8):
            content = content_of(picture, turn)
            width, height = content_size(content)
            pixels = self.compose(Output(0, 7, 8, width, height, 1, 0), [shown(content, 7, 8)])
            self.assertEqual(pixels, picture.turned(turn).pixels)
        self.assertEqual([pixel & 255 for pixel in picture.turned(1).pixels], [4, 1, 5, 2, 6, 3])

    def test_cut_by_the_region(self):
        content = content_of(numbered(3, 3))
        output = Output(0, 0, 0, 3, 3, 1, 0)
        layer = shown(content, 0, 0, (1, 0, 1, 2), (0, 2, 1, 1))
        pixels = [pixel & 255 if pixel != DESK else 0 for pixel in self.compose(output, [layer])]
        self.assertEqual(pixels, [0, 2, 0, 0, 5, 0, 7, 0, 0])

    def test_clear_pixels(self):
        content = content_of(Picture(2, 1, [0, 0x00FF0000]))
        output = Output(0, 0, 0, 2, 1, 1, 0)
        layers = [plain("frame", BLUE, (0, 0, 2, 1)), shown(content, 0, 0)]
        self.assertEqual(self.compose(output, layers), [BLUE, 0xFFFF00C8])

    def test_pixel_by_pixel(self):
        source = random.Random(98)
        for scale in range(1, 5):
            for turn in range(8):
                output = Output(0, source.randint(-7, 1), source.randint(-7, 1), 5, 4, scale, turn)
                layers = [random_layer(source) for _ in range(source.randint(0, 6))]
                self.assertEqual(self.compose(output, layers), expected_pixels(output, layers))


class Repainting(PaintingTest):
    def test_only_the_region(self):
        output = Output(0, 10, 20, 3, 2, 1, 0)
        layers = [plain("frame", RED, (11, 20, 1, 2))]
        pixels = [1, 2, 3, 4, 5, 6]
        region = rectangle_region(11, 20, 2, 1)
        self.assertEqual(repainted(output, pixels, layers, region), [1, RED, DESK, 4, 5, 6])
        self.assertEqual(pixels, [1, 2, 3, 4, 5, 6])
        self.assertEqual(region, rectangle_region(11, 20, 2, 1))

    def test_an_empty_region(self):
        output = Output(0, 10, 20, 3, 2, 1, 0)
        pixels = [1, 2, 3, 4, 5, 6]
        again = repainted(output, pixels, [plain("frame", RED, (0, 0, 99, 99))], [])
        self.assertEqual(again, pixels)
        again.append(7)
        self.assertEqual(len(pixels), 6)

    def test_beyond_the_output(self):
        output = Output(0, 10, 20, 3, 2, 1, 0)
        layers = [plain("frame", RED, (0, 0, 99, 99))]
        pixels = [1, 2, 3, 4, 5, 6]
        for region, expected in [
            (rectangle_region(0, 0, 11, 21), [RED, 2, 3, 4, 5, 6]),
            (rectangle_region(12, 21, 99, 99), [1, 2, 3, 4, 5, RED]),
            (rectangle_region(-9, -9, 999, 999), [RED] * 6),
            (rectangle_region(13, 20, 5, 5), pixels),
            (rectangle_region(10, 22, 5, 5), pixels),
            (rectangle_region(0, 0, 10, 99), pixels),
        ]:
            self.assertEqual(repainted(output, pixels, layers, region), expected)

    def test_parts_with_gaps(self):
        # What lies between the parts of a region stays, though it is made together with them.
        layers = [plain("frame", RED, (0, 0, 8, 6)), shown(content_of(numbered(4, 3, 128)), 2, 2)]
        for scale in (1, 2):
            output = Output(0, 0, 0, 8, 6, scale, 0)
            pixels = [at + 1 for at in range(48 * scale * scale)]
            expected = expected_pixels(output, layers)
            for rectangles in [
                [(1, 1, 6, 1), (1, 2, 1, 3), (6, 2, 1, 3), (1, 5, 6, 1)], [(0, 0, 1, 1), (2, 0, 1, 1), (1, 1, 1, 1)],
                [(0, 0, 1, 6), (7, 0, 1, 6)], [(0, 0, 2, 2), (6, 4, 2, 2)], [(2, 2, 1, 3), (4, 2, 1, 1), (4, 4, 1, 1)],
                [(x, y, 1, 1) for y in range(6) for x in range(y % 2, 8, 2)],
            ]:
                region = plain("", 0, *rectangles).region
                squares = squares_of(region)
                kept = [
                    expected[at] if (at % (8 * scale) // scale, at // (8 * scale) // scale) in squares else pixels[at]
                    for at in range(len(pixels))
                ]
                self.assertEqual(repainted(output, pixels, layers, region), kept)

    def test_with_scales(self):
        source = random.Random(99)
        for _ in range(60):
            output = Output(0, source.randint(-7, 1), source.randint(-7, 1), 4, 3, source.randint(1, 3), 0)
            layers = [random_layer(source) for _ in range(source.randint(0, 5))]
            n = output.scale
            pixels = [source.getrandbits(32) for _ in range(12 * n * n)]
            region = random_layer(source).region
            squares = squares_of(region)
            expected = expected_pixels(output, layers)
            for at in range(len(pixels)):
                px, py = at % (4 * n), at // (4 * n)
                if (output.x + px // n, output.y + py // n) not in squares:
                    expected[at] = pixels[at]
            before = list(pixels)
            self.assertEqual(repainted(output, pixels, layers, region), expected)
            self.assertEqual(pixels, before)


class Differing(unittest.TestCase):
    def setUp(self):
        self.frame = plain("frame", RED, (0, 0, 4, 4))
        self.inside = plain("inside", BLUE, (1, 1, 2, 2))
        self.surface = shown(content_of(numbered(2, 2)), 5, 5)

    def check(self, before, after, *rectangles):
        kept = (list(before), list(after))
        self.assertEqual(differing(before, after), plain("", 0, *rectangles).region)
        self.assertEqual((before, after), kept)

    def test_the_same(self):
        self.check([], [])
        layers = [self.frame, self.inside, self.surface]
        self.check(layers, list(layers))
        self.check(layers, [plain("frame", RED, (0, 0, 4, 4)), plain("inside", BLUE, (1, 1, 2, 2)),
                            shown(content_of(numbered(2, 2)), 5, 5)])

    def test_more_and_fewer(self):
        for layers in [[self.frame], [self.frame, self.surface], [self.surface, self.inside, self.frame]]:
            rectangles = {id(self.frame): (0, 0, 4, 4), id(self.inside): (1, 1, 2, 2), id(self.surface): (5, 5, 2, 2)}
            for many in range(len(layers) + 1):
                rest = [rectangles[id(layer)] for layer in layers[many:]]
                self.check(layers, layers[:many], *rest)
                self.check(layers[:many], layers, *rest)

    def test_others(self):
        self.check([self.frame, self.inside], [self.frame, self.surface], (1, 1, 2, 2), (5, 5, 2, 2))
        self.check([self.frame], [plain("frame", BLUE, (0, 0, 4, 4))], (0, 0, 4, 4))
        self.check([self.frame], [plain("frame", RED, (2, 2, 4, 4))], (0, 0, 4, 4), (2, 2, 4, 4))
        moved = shown(self.surface.content, 9, 5)
        self.check([self.frame, self.surface], [self.frame, moved], (5, 5, 2, 2), (9, 5, 2, 2))

    def test_place_by_place(self):
        # The same layers at other places are compared with others, so all of them are painted again.
        self.check([self.frame, self.surface], [self.surface, self.frame], (0, 0, 4, 4), (5, 5, 2, 2))
        self.check([self.surface], [self.frame, self.surface], (0, 0, 4, 4), (5, 5, 2, 2))

    def test_repainting_what_differs(self):
        source = random.Random(5)
        for _ in range(40):
            output = Output(0, -5, -5, 6, 5, source.randint(1, 2), 0)
            before = [random_layer(source) for _ in range(4)]
            after = [layer if source.random() < 0.6 else random_layer(source) for layer in before]
            after = after[:source.randint(2, 4)] + [random_layer(source)] * source.randint(0, 1)
            pixels = repainted(output, composed(output, before), after, differing(before, after))
            self.assertEqual(pixels, composed(output, after))


if __name__ == "__main__":
    unittest.main()
