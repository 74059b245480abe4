"""Points 97 and 99: the layers of a window, and when two layers are the same."""

import copy
import unittest

from sillwatch.regions.bands import rectangle_region, united
from sillwatch.screens.layers import Layer, same_layer, window_layers
from sillwatch.surfaces.contents import Content
from sillwatch.surfaces.pictures import Picture
from tests.program import Program, at

COLOURS = [0xFFC83C3C, 0xFF3C8C3C, 0xFF3C5AC8, 0xFFB4821E]
GROUND = 0xFFE8E8E8


def region_of(*rectangles):
    region = []
    for rectangle in rectangles:
        region = united(region, rectangle_region(*rectangle))
    return region


class WindowLayers(unittest.TestCase):
    def setUp(self):
        self.start()

    def start(self, slot=0, areas=((0, 0, 400, 300),)):
        self.program = Program(areas, slot)
        self.window, self.surface = self.program.mapped(40, 30)
        self.frame = (0, 0, 44, 42)

    def layers(self):
        """Return the layers, each as a tuple (what, region, colour, x, y), and keep the contents."""
        program = self.program
        placed = program.stack.find(program.slot, self.window)
        self.assertEqual(placed.frame, self.frame)
        layers = window_layers(placed, program.desk, program.painting, program.view())
        self.contents = [layer.content for layer in layers]
        return [(layer.what, layer.region, layer.colour, layer.x, layer.y) for layer in layers]

    def plain(self, what, colour, *rectangles):
        return what, region_of(*rectangles), colour, 0, 0

    def surface_at(self, x, y, *rectangles):
        return "surface", region_of(*rectangles), 0, x, y

    def base(self):
        return [
            self.plain("frame", COLOURS[self.program.slot], (0, 0, 44, 42)),
            self.plain("inside", GROUND, (2, 10, 40, 30)),
            self.surface_at(2, 10, (2, 10, 40, 30)),
        ]

    def no_granted(self):
        return [self.plain("border", COLOURS[self.program.slot]), self.plain("ground", GROUND)]

    def test_without_popups(self):
        for slot in range(4):
            self.start(slot)
            self.assertEqual(self.layers(), self.base() + self.no_granted())
            content = self.program.painting.content_of(self.surface)
            self.assertEqual([self.contents[at] for at in (0, 1, 3, 4)], [None] * 4)
            self.assertEqual(vars(self.contents[2]), vars(content))

    def test_the_tree_in_the_inside(self):
        sub, below = self.program.inner(self.surface, 10, 10)
        other, beyond = self.program.inner(self.surface, 10, 10)
        third, far = self.program.inner(self.surface, 10, 10)
        self.program.ask(sub, "sub", "place", -5, -4)
        self.program.ask(sub, "sub", "below", self.surface)
        self.program.ask(other, "sub", "place", 35, 28)
        self.program.ask(third, "sub", "place", 40, 0)
        self.program.commit(self.surface)
        base = self.base()
        self.assertEqual(self.layers(), base[:2] + [
            self.surface_at(-3, 6, (2, 10, 5, 6)), base[2], self.surface_at(37, 38, (37, 38, 5, 2)),
            self.surface_at(42, 10),
        ] + self.no_granted())

    def test_a_surface_larger_than_the_inside(self):
        self.program.show(self.surface, 60, 50)
        self.assertEqual(self.layers(), self.base() + self.no_granted())
        self.program.show(self.surface, 5, 50)
        base = self.base()
        self.assertEqual(self.layers(), base[:2] + [self.surface_at(2, 10, (2, 10, 5, 30))] + self.no_granted())

    def test_plain_popups(self):
        popup, surface = self.program.popup(self.window, at(5, 6, 10, 8))
        self.program.show(surface, 12, 4)
        cut, half = self.program.popup(self.window, at(35, -3, 10, 8))
        self.program.show(half, 10, 8)
        away, outside = self.program.popup(self.window, at(100, 0, 10, 8))
        self.program.show(outside, 10, 8)
        self.assertEqual(self.layers(), self.base() + [
            self.surface_at(7, 16, (7, 16, 10, 4)),
            self.surface_at(37, 7, (37, 10, 5, 5)),
            self.surface_at(102, 10),
        ] + self.no_granted())

    def test_granted_popups(self):
        popup, surface = self.program.granted_popup(self.window, at(30, 20, 30, 20))
        self.program.show(surface, 40, 15)
        self.assertEqual(self.layers(), self.base() + [
            self.plain("border", COLOURS[0], (30, 28, 34, 24)),
            self.plain("ground", GROUND, (32, 30, 30, 20)),
            self.surface_at(32, 30, (32, 30, 30, 15)),
        ])

    def test_granted_popups_partly_and_wholly_outside(self):
        self.start(2, [(0, 0, 60, 300), (60, 0, 300, 300)])
        _, partly = self.program.granted_popup(self.window, at(50, 0, 20, 20))
        self.program.show(partly, 20, 20)
        _, wholly = self.program.granted_popup(self.window, at(58, 50, 20, 20))
        self.program.show(wholly, 20, 20)
        _, last = self.program.granted_popup(self.window, at(-7, 100, 20, 20))
        self.program.show(last, 20, 20)
        self.assertEqual(self.layers(), self.base() + [
            self.plain("border", COLOURS[2], (50, 8, 12, 24), (-2, 108, 19, 24)),
            self.plain("ground", GROUND, (52, 10, 8, 20), (0, 110, 15, 20)),
            self.surface_at(52, 10, (52, 10, 8, 20)),
            self.surface_at(60, 60),
            self.surface_at(-5, 110, (0, 110, 15, 20)),
        ])

    def test_both_kinds_with_trees(self):
        _, granted = self.program.granted_popup(self.window, at(0, 0, 10, 10))
        self.program.show(granted, 10, 10)
        popup, surface = self.program.popup(self.window, at(20, 0, 10, 10))
        sub, inner = self.program.inner(surface, 10, 10)
        self.program.ask(sub, "sub", "place", 5, 5)
        self.program.show(surface, 10, 10)
        self.assertEqual(self.layers(), self.base() + [
            self.surface_at(22, 10, (22, 10, 10, 10)),
            self.surface_at(27, 15, (27, 15, 5, 5)),
            self.plain("border", COLOURS[0], (0, 8, 14, 14)),
            self.plain("ground", GROUND, (2, 10, 10, 10)),
            self.surface_at(2, 10, (2, 10, 10, 10)),
        ])

    def test_an_inside_beyond_the_output(self):
        self.program.stack.perform(0, ("frame", self.window, (-20, 290, 44, 42), False, None))
        self.frame = (-20, 290, 44, 42)
        self.assertEqual(self.layers(), [
            self.plain("frame", COLOURS[0], (-20, 290, 44, 42)),
            self.plain("inside", GROUND, (-18, 300, 40, 30)),
            self.surface_at(-18, 300, (-18, 300, 40, 30)),
        ] + self.no_granted())


class Same(unittest.TestCase):
    def surface_layer(self, **values):
        fields = {
            "what": "surface", "region": rectangle_region(0, 0, 4, 2), "colour": 0, "x": 1, "y": 2,
            "width": 4, "height": 2, "pixels": [1, 2, 3, 4, 5, 6, 7, 8], "turn": 0, "scale": 1, "hears": None,
            "order": [5], "places": {},
        }
        fields.update(values)
        picture = Picture(fields["width"], fields["height"], fields["pixels"])
        content = Content(picture, *[fields[name] for name in ("turn", "scale", "hears", "order", "places")])
        return Layer(*[fields[name] for name in ("what", "region", "colour", "x", "y")], content)

    def plain_layer(self, what="frame", region=None, colour=7):
        return Layer(what, rectangle_region(0, 0, 4, 2) if region is None else region, colour, 0, 0, None)

    def check(self, expected, a, b):
        self.assertIs(same_layer(a, b), expected)
        self.assertIs(same_layer(b, a), expected)

    def test_fields(self):
        layer = self.plain_layer()
        rows = (layer.what, layer.region, layer.colour, layer.x, layer.y, layer.content)
        self.assertEqual(rows, ("frame", [(0, 2, ((0, 4),))], 7, 0, 0, None))

    def test_other_objects_of_the_same_values(self):
        for layer in [self.plain_layer(), self.surface_layer()]:
            self.check(True, layer, layer)
            self.check(True, layer, copy.deepcopy(layer))

    def test_each_number_by_itself(self):
        names = ["frame", "inside", "border", "ground"]
        for name in names:
            for other in names:
                self.check(name == other, self.plain_layer(name), self.plain_layer(other))
            self.check(False, self.plain_layer(name, None, 0), self.surface_layer(x=0, y=0))

    def test_squares_and_colour(self):
        self.check(False, self.plain_layer(), self.plain_layer(colour=8))
        for region in [[], rectangle_region(0, 0, 4, 1), rectangle_region(1, 0, 4, 2), rectangle_region(0, 1, 4, 2)]:
            self.check(False, self.plain_layer(), self.plain_layer(region=region))
            self.check(False, self.surface_layer(), self.surface_layer(region=region))
        self.check(True, self.plain_layer(region=[]), self.plain_layer(region=[]))

    def test_surfaces(self):
        for values in [
            {"x": 0}, {"y": 1}, {"turn": 1}, {"turn": 4}, {"scale": 2}, {"pixels": [1, 2, 3, 4, 5, 6, 7, 9]},
            {"pixels": [0, 2, 3, 4, 5, 6, 7, 8]}, {"width": 2, "height": 4}, {"width": 8, "height": 1},
        ]:
            self.check(False, self.surface_layer(), self.surface_layer(**values))

    def test_what_is_not_painted(self):
        for values in [{"hears": []}, {"order": [5, 6]}, {"places": {6: (1, 1)}}]:
            self.check(True, self.surface_layer(), self.surface_layer(**values))


if __name__ == "__main__":
    unittest.main()
