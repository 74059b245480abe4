"""Points 97 to 99 and 108: what ticks of a server paint again, and what stays.

What is shown, and what differs from the tick before, is reckoned square by square in `tests/model.py`.
"""

import random
import unittest

from sillwatch.outputs import Output
from tests import model
from tests.client import COMPOSITOR, JOINER, MEMORY, SEAT, WINDOWS, Client, server_of
from tests.program import at
from tests.test_bands import form_of

RED, GREEN, BLUE = 0xFFC80000, 0xFF00C800, 0xFF0000C8
VEIL, GLASS = 0x80402010, 0x10040810
CLEAR = 0
ONE = [Output(0, 0, 0, 48, 44, 1, 0)]
FINE = [Output(0, 0, 0, 48, 44, 2, 5)]
# The windows lie on both of them, and partly beyond.
TWO = [Output(0, 0, 0, 30, 44, 2, 3), Output(9, 30, 4, 16, 30, 3, 6)]


def look_of(width, height, colours, turn=0, scale=1):
    many = width * height
    return width, height, tuple((list(colours) * many)[:many]), turn, scale


class Stage:
    """A server with programs, and what each of their windows shows."""

    def __init__(self, test, outputs, programs=3):
        self.test = test
        self.outputs = outputs
        self.server = server_of(outputs)
        self.clients = [Client(self.server, slot, "p" + str(slot)).start() for slot in range(programs)]
        self.time = 0
        # The windows, as pairs (slot, window), with their surfaces and what these show.
        self.surfaces = {}
        self.looks = {}
        # Rows [x, y, look] of surfaces in the surfaces of windows, from the lowest, all of them above these.
        self.inner = {}
        # Rows (place from the corner of the inside, look) of popups.
        self.plain = {}
        self.granted = {}
        self.before = []
        self.known = list(outputs)

    def layers(self):
        layers = []
        for slot, _, window, _, _, (x, y, width, height), _, hidden, _ in self.server.windows():
            if hidden:
                continue
            key = (slot, window)
            left, top = x + 2, y + 10
            plain = [(left, top, self.looks[key], [])]
            plain += [(left + dx, top + dy, look, []) for dx, dy, look in self.inner[key]]
            for (dx, dy, wide, high), look in self.plain[key]:
                plain.append((left + dx, top + dy, look, [(left + dx, top + dy, wide, high)]))
            granted = [
                ((left + dx, top + dy, wide, high), [(left + dx, top + dy, look)])
                for (dx, dy, wide, high), look in self.granted[key]
            ]
            layers += model.window_layers(slot, (x, y, width, height), plain, granted)
        return layers

    def tick(self):
        """Make a tick, and check what was painted and what is shown; return how many squares were painted."""
        self.time += 1
        self.server.tick(self.time)
        layers = self.layers()
        differing = model.differing_squares(self.before, layers)
        many = 0
        for output in self.outputs:
            painted = model.squares(*output.area())
            if any([vars(output) == vars(known) for known in self.known]):
                painted = painted & differing
            rectangles = [
                (begin, top, end - begin, bottom - top) for top, bottom, spans in form_of(painted) for begin, end in spans
            ]
            self.test.assertEqual(self.server.painted(output.number), rectangles)
            width, height, colours = model.screen(output, layers)
            lines = [self.server.picture(output.number, 0, y, width, 1) for y in range(height)]
            self.test.assertEqual([colour for line in lines for colour in line], colours)
            many += len(painted)
        self.before, self.known = layers, list(self.outputs)
        return many

    def write(self, client, surface, look):
        """Let a surface show a look with its next commit, which comes at once."""
        width, height, pixels, turn, scale = look
        buffer = client.new("buffer")
        client.put(MEMORY, "memory", "buffer", buffer, width, height)
        octets = [colour >> shift & 255 for colour in pixels for shift in (0, 8, 16, 24)]
        client.put(buffer, "buffer", "write", 0, octets)
        client.put(surface, "surface", "attach", buffer)
        client.put(surface, "surface", "turn", turn)
        client.put(surface, "surface", "scale", scale)
        client.put(surface, "surface", "commit")
        client.put(buffer, "buffer", "destroy")
        self.server.rounds(2)
        assert client.is_there()

    def window(self, slot, look):
        window, surface = self.clients[slot].window()
        self.write(self.clients[slot], surface, look)
        key = (slot, window)
        self.surfaces[key], self.looks[key] = surface, look
        self.inner[key], self.plain[key], self.granted[key] = [], [], []
        return key

    def change(self, key, look):
        self.looks[key] = look
        self.write(self.clients[key[0]], self.surfaces[key], look)

    def unmap(self, key):
        self.clients[key[0]].hide(self.surfaces[key])

    def commit(self, key):
        self.clients[key[0]].ask(self.surfaces[key], "surface", "commit")

    def join(self, key, x, y, look):
        """Put a surface into that of a window; return the sub and the surface."""
        client = self.clients[key[0]]
        surface, sub = client.surface(), client.new("sub")
        client.put(JOINER, "joiner", "join", sub, surface, self.surfaces[key])
        client.put(sub, "sub", "place", x, y)
        self.write(client, surface, look)
        self.inner[key].append([x, y, look])
        self.commit(key)
        return sub, surface

    def popup(self, key, x, y, look, serial=0):
        client = self.clients[key[0]]
        surface, popup = client.surface(), client.new("popup")
        width, height = model.size_of(look)
        client.put(WINDOWS, "windows", "popup", popup, surface, key[1], *at(x, y, width, height), serial)
        self.write(client, surface, look)
        assert [row[1:] for row in client.told() if row[1] == "placed"] == [("placed", x, y, width, height)]
        (self.granted if serial else self.plain)[key].append(((x, y, width, height), look))
        return popup, surface

    def press(self, key, button=2):
        """Press a button on the topmost window, in the corner of its inside, and return the serial."""
        client = self.clients[key[0]]
        client.told()
        x, y, _, _ = client.frame(key[1])
        self.server.motion(self.time, x + 3, y + 11)
        self.server.button(self.time, button, True)
        self.server.button(self.time, button, False)
        serials = [row[2] for row in client.told() if row[1] == "button" and row[4] == 1]
        return serials[0] if serials else None

    def switch(self, key):
        self.server.switch(self.time, *key)


def some_looks():
    """Return looks that are opaque, clear, between both, and all of these."""
    return [
        look_of(30, 20, [RED]), look_of(18, 24, [VEIL]), look_of(16, 16, [CLEAR]),
        look_of(24, 18, [GLASS, CLEAR, BLUE, VEIL, GREEN], 1), look_of(40, 32, [RED, GREEN, BLUE, 0xFE010203], 6, 2),
        look_of(20, 20, [0x00FF0000, 0x80FFFFFF, VEIL]),
    ]


class Switches(unittest.TestCase):
    def stage(self, outputs, looks):
        stage = Stage(self, outputs)
        keys = [stage.window(at % 3, look) for at, look in enumerate(looks)]
        self.assertEqual(len(stage.server.windows()), len(looks))
        stage.tick()
        return stage, keys

    def check(self, outputs):
        stage, keys = self.stage(outputs, some_looks())
        self.assertEqual(stage.tick(), 0)
        for at in [0, 5, 3, 3, 1, 4, 2]:
            top = stage.server.windows()[-1]
            stage.switch(keys[at])
            painted = stage.tick()
            if top[:3:2] == keys[at]:
                self.assertEqual(painted, 0)
            else:
                self.assertGreater(painted, 0)
            self.assertEqual(stage.tick(), 0)

    def test_one_output(self):
        self.check(ONE)

    def test_a_scale_and_a_turn(self):
        self.check(FINE)

    def test_two_outputs(self):
        self.check(TWO)

    def test_windows_of_one_kind(self):
        # That a window is between others changes what is seen through it, or nothing that is seen.
        for colour in [RED, CLEAR, VEIL, GLASS, 0x00FFFFFF, 0x80FFFFFF]:
            stage, keys = self.stage(ONE, [look_of(16, 16, [colour]), look_of(16, 16, [colour]), look_of(18, 18, [colour])])
            for at in [0, 1, 2, 1, 0]:
                stage.switch(keys[at])
                stage.tick()

    def test_several_switches_between_two_ticks(self):
        stage, keys = self.stage(ONE, some_looks()[:4])
        first = [row[:3] for row in stage.server.windows()]
        for slot, _, window in first:
            stage.switch((slot, window))
        self.assertEqual([row[:3] for row in stage.server.windows()], first)
        self.assertEqual(stage.tick(), 0)
        stage.switch(keys[2])
        stage.switch(keys[0])
        self.assertGreater(stage.tick(), 0)

    def test_any_order(self):
        source = random.Random(108)
        for outputs in [ONE, TWO]:
            looks = source.sample(some_looks(), 5)
            stage, keys = self.stage(outputs, looks)
            for _ in range(8):
                for key in source.sample(keys, source.randint(0, 3)):
                    stage.switch(key)
                stage.tick()


class NoChange(unittest.TestCase):
    def test_what_is_not_seen(self):
        stage = Stage(self, TWO)
        keys = [stage.window(slot, look) for slot, look in enumerate(some_looks()[:3])]
        for client in stage.clients:
            client.pointer()
            client.keyboard()
        stage.tick()
        client, surface = stage.clients[1], stage.surfaces[keys[1]]
        region = client.new("region")
        client.put(COMPOSITOR, "compositor", "region", region)
        deeds = [
            lambda: None,
            lambda: stage.server.motion(stage.time, 12, 20),
            lambda: stage.server.motion(stage.time, 40, 40),
            lambda: stage.server.key(stage.time, 30, True),
            lambda: stage.server.axis(stage.time, 1, 1),
            lambda: stage.server.rounds(3),
            lambda: client.ask(keys[1][1], "window", "title", "another title"),
            lambda: stage.commit(keys[1]),
            # The same picture, by another buffer.
            lambda: stage.change(keys[1], stage.looks[keys[1]]),
            # Where a surface hears is not painted.
            lambda: (client.put(surface, "surface", "hears", region), stage.commit(keys[1])),
            # A surface without a window, and a window that is not mapped.
            lambda: stage.write(client, client.surface(), look_of(5, 5, [RED])),
            lambda: client.window(),
            lambda: stage.clients[2].ask(SEAT, "seat", "pointer", stage.clients[2].new("pointer")),
            lambda: stage.server.set_outputs(list(reversed(TWO))),
            lambda: stage.server.set_policy("allow capture from any to any;"),
        ]
        for at, deed in enumerate(deeds):
            deed()
            with self.subTest(deed=at):
                self.assertEqual(stage.tick(), 0)

    def test_a_press_on_the_topmost_window(self):
        stage = Stage(self, ONE)
        for slot, look in enumerate(some_looks()[:3]):
            stage.window(slot, look)
        stage.tick()
        top = stage.server.windows()[-1]
        stage.press((top[0], top[2]))
        self.assertEqual(stage.tick(), 0)
        self.assertEqual(stage.server.windows()[-1][:3], top[:3])

    def test_ticks_at_one_time(self):
        stage = Stage(self, ONE)
        stage.window(0, some_looks()[3])
        stage.tick()
        stage.time -= 1
        self.assertEqual(stage.tick(), 0)


class Contents(unittest.TestCase):
    def test_other_pictures(self):
        for outputs in [ONE, FINE, TWO]:
            stage = Stage(self, outputs, 2)
            below, above = stage.window(0, look_of(20, 20, [RED])), stage.window(1, look_of(18, 18, [VEIL]))
            stage.switch(above)
            stage.tick()
            pixels = [VEIL] * 323 + [GLASS]
            for key, look in [
                (above, look_of(18, 18, pixels)), (above, look_of(18, 18, pixels, 3)), (above, look_of(18, 18, pixels, 4)),
                (above, look_of(18, 18, pixels, 4, 2)), (above, look_of(18, 18, pixels, 4, 3)),
                (above, look_of(17, 18, pixels)), (above, look_of(18, 17, pixels)), (above, look_of(24, 24, pixels)),
                (below, look_of(20, 20, [CLEAR])), (below, look_of(20, 20, [BLUE, CLEAR])), (below, look_of(2, 2, [RED])),
                # As many colours, in another width, and what a turn makes of the same colours.
                (below, look_of(4, 1, [RED])), (below, look_of(1, 4, [RED])), (below, look_of(1, 4, [RED], 1)),
            ]:
                stage.change(key, look)
                stage.tick()
                self.assertEqual(stage.tick(), 0)

    def test_there_and_back_between_two_ticks(self):
        stage = Stage(self, ONE, 1)
        key = stage.window(0, look_of(20, 20, [RED]))
        stage.tick()
        stage.change(key, look_of(20, 20, [BLUE]))
        stage.change(key, look_of(20, 20, [RED]))
        self.assertEqual(stage.tick(), 0)


class ComeAndGo(unittest.TestCase):
    def test_windows(self):
        for outputs in [ONE, TWO]:
            stage = Stage(self, outputs)
            self.assertEqual(stage.tick(), 0)
            keys = []
            # Each one comes to the bottom, so the layers of all others change their places.
            for at, look in enumerate(some_looks()[:4]):
                keys.append(stage.window(at % 3, look))
                self.assertGreater(stage.tick(), 0)
            stage.unmap(keys[2])
            self.assertGreater(stage.tick(), 0)
            stage.clients[0].ask(keys[0][1], "window", "destroy")
            self.assertGreater(stage.tick(), 0)
            stage.server.end(1)
            self.assertGreater(stage.tick(), 0)
            stage.server.restart()
            stage.tick()
            self.assertEqual((stage.before, stage.tick()), ([], 0))

    def test_the_lowest_window_goes(self):
        stage = Stage(self, ONE)
        keys = [stage.window(slot, look) for slot, look in enumerate(some_looks()[:3])]
        stage.tick()
        # The last one is the lowest, and nothing of it can be seen where others are; but their layers come down.
        stage.unmap(keys[2])
        squares = set().union(*[layer[1] for layer in stage.before])
        self.assertEqual(stage.tick(), len(squares & model.squares(0, 0, 48, 44)))

    def test_windows_that_are_hidden(self):
        stage = Stage(self, ONE)
        keys = [stage.window(slot, look_of(30 + slot, 16 + slot, [VEIL, slot])) for slot in range(3)]
        stage.tick()
        for key in keys:
            x, y, width, _ = stage.clients[key[0]].frame(key[1])
            stage.switch(key)
            stage.tick()
            stage.server.motion(stage.time, x + width - 25, y + 4)
            stage.server.button(stage.time, 1, True)
            stage.server.button(stage.time, 1, False)
            self.assertEqual([row[7] for row in stage.server.windows() if row[:3:2] == key], [True])
            self.assertGreater(stage.tick(), 0)
        self.assertEqual(stage.before, [])
        stage.switch(keys[1])
        self.assertGreater(stage.tick(), 0)

    def test_surfaces_in_surfaces(self):
        for outputs in [ONE, TWO]:
            stage = Stage(self, outputs, 2)
            below, above = stage.window(0, look_of(20, 20, [RED, BLUE])), stage.window(1, look_of(20, 18, [VEIL]))
            stage.switch(above)
            stage.tick()
            client = stage.clients[0]
            first, inner = stage.join(below, 4, 5, look_of(8, 6, [GREEN, VEIL]))
            self.assertGreater(stage.tick(), 0)
            second, _ = stage.join(below, 6, -3, look_of(9, 9, [GLASS, CLEAR], 7))
            stage.tick()
            client.put(first, "sub", "place", 14, 16)
            self.assertEqual(stage.tick(), 0)
            stage.inner[below][0][:2] = [14, 16]
            stage.commit(below)
            self.assertGreater(stage.tick(), 0)
            # Two layers change their places.
            stage.inner[below].reverse()
            client.put(second, "sub", "below", inner)
            stage.commit(below)
            self.assertGreater(stage.tick(), 0)
            # Nothing of it can be seen any more, but it has a layer.
            stage.inner[below][1][:2] = [40, 40]
            client.put(first, "sub", "place", 40, 40)
            stage.commit(below)
            self.assertGreater(stage.tick(), 0)
            del stage.inner[below][0]
            client.ask(second, "sub", "destroy")
            self.assertGreater(stage.tick(), 0)
            stage.switch(below)
            stage.tick()

    def test_popups(self):
        for outputs in [ONE, FINE]:
            stage = Stage(self, outputs, 2)
            below, above = stage.window(0, look_of(20, 20, [RED, BLUE])), stage.window(1, look_of(18, 18, [VEIL]))
            for client in stage.clients:
                client.pointer()
            stage.switch(above)
            stage.tick()
            stage.popup(below, 3, 2, look_of(7, 9, [GREEN, CLEAR, GLASS]))
            self.assertGreater(stage.tick(), 0)
            stage.popup(below, 10, 8, look_of(9, 9, [BLUE]))
            stage.tick()
            stage.switch(below)
            stage.tick()
            serial = stage.press(below)
            popup, surface = stage.popup(below, 12, 5, look_of(10, 12, [VEIL, GREEN, CLEAR]), serial)
            self.assertGreater(stage.tick(), 0)
            self.assertTrue([layer for layer in stage.before if layer[0] == "border" and layer[1]])
            stage.popup(above, 1, 1, look_of(16, 3, [GLASS, RED]))
            stage.tick()
            # A press on another window dismisses the popup with the grant.
            stage.granted[below].clear()
            stage.switch(above)
            self.assertGreater(stage.tick(), 0)
            self.assertIn((popup, "done"), stage.clients[0].told())
            # It comes again without a grant, behind those that are older.
            stage.plain[below].append(((12, 5, 10, 12), look_of(10, 12, [VEIL, GREEN, CLEAR])))
            stage.write(stage.clients[0], surface, look_of(10, 12, [VEIL, GREEN, CLEAR]))
            self.assertGreater(stage.tick(), 0)
            self.assertIn((popup, "placed", 12, 5, 10, 12), stage.clients[0].told())
            stage.plain[below].pop()
            stage.clients[0].ask(popup, "popup", "destroy")
            self.assertGreater(stage.tick(), 0)

    def test_frames_that_are_moved_and_resized(self):
        for outputs in [ONE, FINE]:
            stage = Stage(self, outputs, 2)
            below, above = stage.window(0, look_of(20, 20, [RED])), stage.window(1, look_of(40, 18, [VEIL, CLEAR]))
            stage.switch(above)
            stage.tick()
            for place, steps in [((5, 4), [(3, 5), (-2, -3), (0, 0), (-1, 1)]), ((40, 28), [(-12, 2), (-8, 3), (19, 0)])]:
                x, y, _, _ = stage.clients[1].frame(above[1])
                x, y = x + place[0], y + place[1]
                stage.server.motion(stage.time, x, y)
                stage.server.button(stage.time, 1, True)
                for dx, dy in steps:
                    before = stage.clients[1].frame(above[1])
                    x, y = x + dx, y + dy
                    stage.server.motion(stage.time, x, y)
                    moved = stage.clients[1].frame(above[1]) != before
                    self.assertEqual(moved, (dx, dy) != (0, 0))
                    self.assertEqual(stage.tick() > 0, moved)
                stage.server.button(stage.time, 1, False)
                stage.switch(above)
                stage.server.motion(stage.time, 0, 0)
                stage.tick()
            stage.switch(below)
            self.assertGreater(stage.tick(), 0)

    def test_outputs(self):
        stage = Stage(self, ONE, 2)
        stage.window(0, some_looks()[3])
        stage.window(1, some_looks()[1])
        stage.tick()
        for outputs in [FINE, TWO, TWO[:1], [TWO[0], Output(9, 30, 4, 16, 30, 3, 7)], TWO, ONE, ONE]:
            stage.outputs = outputs
            stage.server.set_outputs(outputs)
            stage.tick()
            self.assertEqual(stage.tick(), 0)


if __name__ == "__main__":
    unittest.main()
