"""Points 3, 26, 98 and 99: the pictures that are asked for, whole and line by line, for each turn.

What they should be is reckoned pixel by pixel from what the program has painted, in `tests/model.py`.
"""

import copy
import random
import unittest

from sillwatch.errors import NoSuchPicture, OutsidePicture, TooManyPixels
from sillwatch.outputs import Output
from sillwatch.regions.bands import rectangle_region
from sillwatch.screens.layers import Layer
from sillwatch.screens.screens import Screens
from sillwatch.surfaces.contents import Content
from sillwatch.surfaces.pictures import Picture
from tests import model
from tests.client import MEMORY, Client, server_of
from tests.helpers import error_class_of

RED, BLUE, VEIL = 0xFFC80000, 0xFF0000C8, 0x80402010


def lines_of(source, number, width, height):
    return [colour for y in range(height) for colour in source.picture(number, 0, y, width, 1)]


def columns_of(source, number, width, height):
    columns = [source.picture(number, x, 0, 1, height) for x in range(width)]
    return [columns[x][y] for y in range(height) for x in range(width)]


def both(x, y, look):
    """Return a layer and that of the model."""
    width, height, pixels, turn, scale = look
    content = Content(Picture(width, height, list(pixels)), turn, scale, None, [1], {})
    size = model.size_of(look)
    return Layer("surface", rectangle_region(x, y, *size), 0, x, y, content), model.surface_layer(x, y, look)


def both_plain(rectangle, colour):
    return (
        Layer("frame", rectangle_region(*rectangle), colour, 0, 0, None), ("frame", model.squares(*rectangle), colour)
    )


def some_layers(source, outputs):
    """Return pairs of layers, and layers of the model, somewhere on outputs."""
    pairs = []
    for _ in range(source.randint(1, 5)):
        output = source.choice(outputs)
        x = output.x + source.randint(-3, output.width)
        y = output.y + source.randint(-3, output.height)
        if source.random() < 0.4:
            rectangle = (x, y, source.randint(1, 9), source.randint(1, 9))
            pairs.append(both_plain(rectangle, source.choice([RED, BLUE, VEIL])))
        else:
            scale = source.randint(1, 2)
            width, height = scale * source.randint(1, 5), scale * source.randint(1, 5)
            pixels = tuple(source.choice([0, RED, VEIL, source.getrandbits(32)]) for _ in range(width * height))
            pairs.append(both(x, y, (width, height, pixels, source.randrange(8), scale)))
    return pairs


class PictureTest(unittest.TestCase):
    def check(self, source, output, layers):
        """Check all of what a screen was given, in several ways to ask for it."""
        width, height, colours = model.screen(output, layers)
        number = output.number
        self.assertEqual(source.picture(number, 0, 0, width, height), colours)
        self.assertEqual(lines_of(source, number, width, height), colours)
        self.assertEqual(columns_of(source, number, width, height), colours)
        for x, y, wide, high in [(1, 2, width - 1, 1), (width - 1, height - 1, 1, 1), (1, 1, 2, 3), (0, 1, width, 2)]:
            expected = [colours[row * width + column] for row in range(y, y + high) for column in range(x, x + wide)]
            self.assertEqual(source.picture(number, x, y, wide, high), expected)


class EachTurn(PictureTest):
    def test_sides_that_differ(self):
        layers = [both_plain((12, 21, 3, 2), RED), both(14, 22, (4, 3, tuple(range(2 ** 32 - 12, 2 ** 32)), 1, 1))]
        for turn in range(8):
            for width, height, scale in [(9, 4, 1), (4, 9, 1), (7, 5, 2), (5, 6, 3), (3, 4, 4)]:
                with self.subTest(turn=turn, width=width, height=height, scale=scale):
                    output = Output(7, 10, 20, width, height, scale, turn)
                    screens = Screens([output], [layer for layer, _ in layers])
                    self.check(screens, output, [layer for _, layer in layers])

    def test_where_the_corner_comes(self):
        # The first pixel of the output is red, the last one of its first row is blue.
        layers = [both_plain((0, 0, 1, 1), RED)[0], both_plain((4, 0, 1, 1), BLUE)[0]]
        for turn, red, blue in [
            (0, (0, 0), (4, 0)), (1, (2, 0), (2, 4)), (2, (4, 2), (0, 2)), (3, (0, 4), (0, 0)),
            (4, (4, 0), (0, 0)), (5, (2, 4), (2, 0)), (6, (0, 2), (4, 2)), (7, (0, 0), (0, 4)),
        ]:
            screens = Screens([Output(7, 0, 0, 5, 3, 1, turn)], layers)
            self.assertEqual(screens.picture(7, *red, 1, 1), [RED])
            self.assertEqual(screens.picture(7, *blue, 1, 1), [BLUE])

    def test_larger_than_one_call(self):
        for turn in range(8):
            output = Output(7, 0, 0, 44, 32, 2, turn)
            screens = Screens([output], [both_plain((3, 5, 30, 2), RED)[0], both_plain((40, 30, 4, 2), BLUE)[0]])
            layers = [both_plain((3, 5, 30, 2), RED)[1], both_plain((40, 30, 4, 2), BLUE)[1]]
            width, height, colours = model.screen(output, layers)
            self.assertEqual((width, height), (64, 88) if turn % 2 else (88, 64))
            self.assertEqual(lines_of(screens, 7, width, height), colours)
            self.assertIs(error_class_of(screens.picture, 7, 0, 0, width, height), TooManyPixels)


class SeveralTicks(PictureTest):
    def paint(self, screens, outputs, pairs):
        screens.paint(outputs, [layer for layer, _ in pairs])
        for output in outputs:
            self.check(screens, output, [layer for _, layer in pairs])

    def test_nothing_is_left_of_an_earlier_tick(self):
        for turn in range(8):
            outputs = [Output(7, 0, 0, 6, 4, 2, turn)]
            screens = Screens(outputs, [])
            self.check(screens, outputs[0], [])
            for pairs in [
                [both_plain((1, 1, 3, 2), RED)], [both_plain((1, 1, 3, 2), BLUE)], [both_plain((2, 1, 3, 2), BLUE)], [],
                [both(0, 0, (2, 3, (RED, BLUE, 0, VEIL, RED, 0), 3, 1))], [],
            ]:
                self.paint(screens, outputs, pairs)

    def test_another_turn_of_the_same_output(self):
        source = random.Random(20)
        pairs = some_layers(source, [Output(7, 0, 0, 6, 4, 1, 0)])
        screens = Screens([Output(7, 0, 0, 6, 4, 1, 0)], [layer for layer, _ in pairs])
        for turn in [1, 2, 3, 4, 5, 6, 7, 0, 4, 1, 5, 5]:
            self.paint(screens, [Output(7, 0, 0, 6, 4, 1, turn)], pairs)

    def test_a_turn_counts_with_the_next_tick(self):
        output = Output(7, 0, 0, 6, 4, 1, 1)
        pairs = [both_plain((0, 0, 2, 1), RED)]
        screens = Screens([output], [layer for layer, _ in pairs])
        before = copy.copy(output)
        output.turn, output.width = 4, 5
        self.check(screens, before, [layer for _, layer in pairs])
        self.paint(screens, [output], pairs)

    def test_other_outputs_and_layers(self):
        source = random.Random(21)
        outputs = [Output(7, 0, 0, 6, 4, 1, 3)]
        screens = Screens(outputs, [])
        pairs = []
        for _ in range(60):
            if source.random() < 0.5:
                pairs = some_layers(source, outputs)
            if source.random() < 0.4:
                numbers = source.sample([1, 2, 7], source.randint(1, 3))
                outputs = [
                    Output(number, 10 * at, source.randint(-2, 2), source.randint(4, 8), source.randint(4, 7),
                           source.randint(1, 3), source.randrange(8)) for at, number in enumerate(numbers)
                ]
            self.paint(screens, outputs, pairs)

    def test_between_ticks(self):
        output = Output(7, 0, 0, 5, 4, 1, 6)
        screens = Screens([output], [])
        layers = [both_plain((0, 0, 3, 3), RED)[0]]
        screens.paint([output], layers)
        layers.clear()
        self.check(screens, output, [both_plain((0, 0, 3, 3), RED)[1]])
        self.check(screens, output, [both_plain((0, 0, 3, 3), RED)[1]])


class WrongCalls(unittest.TestCase):
    def test_the_order_of_errors_for_each_turn(self):
        for turn in range(8):
            screens = Screens([Output(7, 0, 0, 100, 60, 1, turn)], [])
            width, height = (60, 100) if turn % 2 else (100, 60)
            for rectangle, expected in [
                ((0, 0, width, 1), None), ((0, 0, 1, height), None), ((width - 1, height - 1, 1, 1), None),
                ((0, 0, width + 1, 1), OutsidePicture), ((0, 0, 1, height + 1), OutsidePicture),
                ((width, 0, 1, 1), OutsidePicture), ((0, height, 1, 1), OutsidePicture),
                ((1, 0, width, 1), OutsidePicture), ((0, 1, 1, height), OutsidePicture),
                ((1, 1, width, height), OutsidePicture), ((0, 0, width, height), TooManyPixels),
                ((0, 0, 60, 60), None), ((0, 0, 60, height), None if turn % 2 == 0 else TooManyPixels),
            ]:
                self.assertIs(error_class_of(screens.picture, 7, *rectangle), expected, (turn, rectangle))
                self.assertIs(error_class_of(screens.picture, 8, *rectangle), NoSuchPicture)

    def test_nothing_is_left_of_a_wrong_call(self):
        output = Output(7, 0, 0, 5, 3, 1, 1)
        screens = Screens([output], [both_plain((1, 0, 1, 3), RED)[0]])
        for rectangle in [(0, 0, 4, 1), (3, 0, 1, 1), (0, 0, 99, 99)]:
            self.assertIs(error_class_of(screens.picture, 7, *rectangle), OutsidePicture)
        self.assertEqual(screens.picture(7, 0, 0, 3, 5), [model.DESK] * 3 + [RED] * 3 + [model.DESK] * 9)

    def test_lists_are_new(self):
        for turn in range(8):
            output = Output(7, 0, 0, 5, 3, 1, turn)
            screens = Screens([output], [])
            width, height = (3, 5) if turn % 2 else (5, 3)
            for rectangle in [(0, 0, width, 1), (0, 0, width, height), (1, 1, 1, 1)]:
                first = screens.picture(7, *rectangle)
                first[0] = RED
                first.append(BLUE)
                self.assertEqual(screens.picture(7, *rectangle), [model.DESK] * (rectangle[2] * rectangle[3]))
            screens.paint([output], [])
            self.assertEqual(screens.picture(7, 0, 0, width, height), [model.DESK] * 15)


class OfAServer(PictureTest):
    def frame_layers(self, server, looks):
        layers = []
        for slot, _, window, _, _, frame, _, hidden, _ in server.windows():
            if not hidden:
                x, y = frame[0] + 2, frame[1] + 10
                layers += model.window_layers(slot, frame, [(x, y, looks[slot, window], [])])
        return layers

    def show(self, client, surface, colours):
        """Show a picture of 16 x 18 pixels with some colours, and return its look."""
        pixels = tuple((colours * 288)[:288])
        octets = [colour >> shift & 255 for colour in pixels for shift in (0, 8, 16, 24)]
        buffer = client.new("buffer")
        client.put(MEMORY, "memory", "buffer", buffer, 16, 18)
        client.put(buffer, "buffer", "write", 0, octets)
        client.put(surface, "surface", "attach", buffer)
        client.put(surface, "surface", "commit")
        client.ask(buffer, "buffer", "destroy")
        self.assertTrue(client.is_there())
        return 16, 18, pixels, 0, 1

    def test_windows_outputs_and_turns(self):
        source = random.Random(99)
        outputs = [Output(7, 0, 0, 60, 44, 1, 0)]
        server = server_of(outputs)
        clients = [Client(server, slot, "p" + str(slot)).start() for slot in range(2)]
        looks, surfaces = {}, {}
        for client in clients:
            window, surfaces[client.slot] = client.window()
            looks[client.slot, window] = self.show(client, surfaces[client.slot], [RED, VEIL, client.slot, 0, BLUE])
        self.check(server, outputs[0], [])
        for time in range(16):
            server.tick(time)
            layers = self.frame_layers(server, looks)
            painted = outputs
            slot, window = source.choice(list(looks))
            deed = source.randrange(4)
            if deed == 0:
                server.switch(time, slot, window)
            elif deed == 1:
                colours = [source.getrandbits(32) for _ in range(source.randint(1, 7))]
                looks[slot, window] = self.show(clients[slot], surfaces[slot], colours)
            else:
                turn = source.randrange(8)
                outputs = [Output(7, 0, 0, 60, 44, 1, turn), Output(2, 60, 0, 10, 12, 2, 7 - turn)][:deed - 1]
                server.set_outputs(outputs)
            # What has changed since is not in what was painted.
            for output in painted:
                self.check(server, output, layers)

    def check(self, source, output, layers):
        width, height, colours = model.screen(output, layers)
        self.assertEqual(lines_of(source, output.number, width, height), colours)
        self.assertEqual(columns_of(source, output.number, width, height), colours)


if __name__ == "__main__":
    unittest.main()
