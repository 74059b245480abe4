"""Points 35, 85, 99, 107 and 108: times, ticks, and the environment."""

import unittest

from sillwatch.errors import BadKeymap, BadOutputs, BadPolicy, BadTime, NoSuchPicture, OutsidePicture, TooManyPixels
from sillwatch.outputs import Output
from sillwatch.screens.colours import DESK, GROUND
from tests.client import ALL_FLOWS, OUTPUT, REGISTRY, TRANSFER, Client, server_of
from tests.helpers import error_class_of

RED = 0xFFFF0000


class Times(unittest.TestCase):
    def calls(self, server):
        return {
            "tick": lambda time: server.tick(time), "motion": lambda time: server.motion(time, 1, 1),
            "button": lambda time: server.button(time, 1, True), "axis": lambda time: server.axis(time, 1, 1),
            "key": lambda time: server.key(time, 1, True), "switch": lambda time: server.switch(time, 0, 5),
        }

    def test_none_is_less_than_the_one_before(self):
        for first in self.calls(server_of()):
            for second in self.calls(server_of()):
                server = server_of()
                calls = self.calls(server)
                calls[first](5)
                self.assertIs(error_class_of(calls[second], 4), BadTime)
                calls[second](5)
                calls[second](6)
                self.assertIs(error_class_of(calls[first], 5), BadTime)

    def test_at_first(self):
        for name in self.calls(server_of()):
            self.calls(server_of())[name](0)

    def test_nothing_changes(self):
        server = server_of()
        client = Client(server).start()
        client.mapped()
        client.pointer()
        server.tick(10)
        surface = client.surface()
        client.put(surface, "surface", "frame", client.new("callback"))
        client.ask(surface, "surface", "commit")
        client.told()
        causes = len([1 for number in range(2000) if server.why(0, number) is not None])
        for name, call in self.calls(server).items():
            self.assertIs(error_class_of(call, 9), BadTime)
        self.assertEqual(client.told(), [])
        self.assertEqual(len([1 for number in range(2000) if server.why(0, number) is not None]), causes)
        server.motion(10, 10, 20)
        self.assertEqual([row[1] for row in client.told()], ["enter"])


class Ticks(unittest.TestCase):
    def setUp(self):
        self.server = server_of(policy="allow share, name from any to any;")
        self.client = Client(self.server).start()

    def ask_back(self, client):
        """Return a callback that waits for a tick."""
        surface = client.surface()
        callback = client.new("callback")
        client.put(surface, "surface", "frame", callback)
        client.ask(surface, "surface", "commit")
        return callback

    def test_callbacks(self):
        first, second = self.ask_back(self.client), self.ask_back(self.client)
        self.server.tick(2 ** 32 + 7)
        self.assertEqual(self.client.told(), [
            (first, "done", 7), (1, "removed", first), (second, "done", 7), (1, "removed", second),
        ])
        self.server.tick(2 ** 32 + 8)
        self.assertEqual(self.client.told(), [])

    def test_the_order(self):
        watch, fetch, callback = self.client.new("watch"), self.client.new("fetch"), self.ask_back(self.client)
        self.client.put(TRANSFER, "transfer", "watch", watch, "b")
        self.client.ask(TRANSFER, "transfer", "fetch", fetch, "k")
        other = Client(self.server, 1, "b").start()
        other.ask(TRANSFER, "transfer", "send", "k", [1, 2, 3])
        self.server.tick(4)
        self.assertEqual(self.client.told(), [
            (callback, "done", 4), (1, "removed", callback), (fetch, "changed", 3), (watch, "there"),
        ])

    def test_fetches(self):
        fetch = self.client.new("fetch")
        self.client.ask(TRANSFER, "transfer", "fetch", fetch, "k")
        self.client.ask(TRANSFER, "transfer", "send", "k", [9])
        others = [Client(self.server, slot, label).start() for slot, label in [(1, "b"), (2, "c")]]

        def tick():
            self.server.tick(0)
            return self.client.told()

        self.assertEqual(tick(), [])
        others[1].ask(TRANSFER, "transfer", "send", "k", [1, 2])
        self.assertEqual(tick(), [(fetch, "changed", 2)])
        others[0].ask(TRANSFER, "transfer", "send", "k", [1, 2])
        self.assertEqual(tick(), [])
        others[0].ask(TRANSFER, "transfer", "send", "k", [3])
        self.assertEqual(self.client.ask(fetch, "fetch", "read", 0, 2), [(fetch, "part", 0, [1, 2])])
        self.assertEqual(tick(), [(fetch, "changed", 1)])
        self.server.set_policy('program b = "b"; allow share from any but b to any;')
        self.assertEqual(tick(), [(fetch, "changed", 2)])
        others[1].ask(TRANSFER, "transfer", "unsend", "k")
        self.assertEqual(tick(), [(fetch, "gone")])
        self.server.set_policy("allow share from any to any;")
        self.assertEqual(tick(), [(fetch, "changed", 1)])
        self.server.leave(1)
        self.assertEqual(tick(), [(fetch, "gone")])

    def test_watches(self):
        watch = self.client.new("watch")
        self.client.ask(TRANSFER, "transfer", "watch", watch, "b")

        def tick():
            self.server.tick(0)
            return self.client.told()

        self.assertEqual(tick(), [(watch, "gone")])
        Client(self.server, 1, "b")
        self.assertEqual(tick(), [(watch, "there")])
        self.server.set_policy("")
        self.assertEqual(tick(), [(watch, "gone")])
        self.server.set_policy("allow name from any to any;")
        self.assertEqual(tick(), [(watch, "there")])
        self.server.leave(1)
        self.assertEqual(tick(), [(watch, "gone")])
        Client(self.server, 2, "b")
        self.assertEqual(tick(), [(watch, "there")])

    def test_frames_are_not_told(self):
        window, _ = self.client.mapped()
        self.server.rounds(1)
        self.client.told()
        self.server.set_outputs([Output(0, 100, 0, 100, 100, 1, 0)])
        self.server.tick(5)
        self.assertEqual(self.client.told(), [])
        self.server.rounds(1)
        self.assertEqual(self.client.told(), [(window, "left", 0)])


class Painting(unittest.TestCase):
    def setUp(self):
        self.server = server_of()
        self.client = Client(self.server).start()

    def test_with_a_tick(self):
        window, surface = self.client.mapped(20, 20, RED)
        self.assertEqual(self.server.picture(0, 0, 0, 1, 1), [DESK])
        self.server.tick(1)
        self.assertEqual(self.server.painted(0), [(0, 0, 24, 32)])
        self.assertEqual(self.server.picture(0, 0, 0, 1, 1), [0xFFC83C3C])
        self.assertEqual(self.server.picture(0, 2, 10, 20, 20), [RED] * 400)
        self.client.paint(surface, 10, 20, RED)
        self.assertEqual(self.server.picture(0, 2, 10, 20, 1), [RED] * 20)
        self.server.tick(1)
        self.assertEqual(self.server.picture(0, 2, 10, 20, 1), [RED] * 10 + [GROUND] * 10)
        self.server.tick(1)
        self.assertEqual(self.server.painted(0), [])

    def test_programs_that_end_and_windows_that_are_hidden(self):
        window, _ = self.client.mapped(20, 20, RED)
        other = Client(self.server, 3, "d").start()
        other.mapped(30, 30)
        self.server.switch(0, 0, window)
        self.server.tick(0)
        self.server.motion(0, 0, 5)
        self.server.leave(3)
        self.server.tick(0)
        self.assertEqual(self.server.picture(0, 24, 0, 1, 1), [DESK])
        self.server.leave(0)
        self.assertEqual(self.server.picture(0, 0, 0, 1, 1), [0xFFC83C3C])
        self.server.tick(0)
        self.assertEqual(self.server.picture(0, 0, 0, 1, 1), [DESK])

    def test_a_program_that_is_too_slow_is_painted(self):
        # It ends behind the tick.
        self.client.mapped(20, 20, RED)
        watch = self.client.new("watch")
        self.client.ask(TRANSFER, "transfer", "watch", watch, "x")
        for _ in range(16):
            for _ in range(32):
                self.client.put(1, "display", "sync", self.client.new("callback"))
            self.server.rounds(1)
        self.assertEqual(self.server.slots()[0][3], 1024)
        self.server.tick(1)
        self.assertEqual((self.server.picture(0, 0, 0, 1, 1), self.server.windows()), ([0xFFC83C3C], []))

    def test_other_outputs(self):
        other = Output(4, 500, 500, 10, 10, 2, 1)
        self.server.set_outputs([other])
        self.assertEqual(self.server.painted(0), [(0, 0, 200, 150)])
        self.assertIs(error_class_of(self.server.painted, 4), NoSuchPicture)
        self.server.tick(1)
        self.assertEqual(self.server.painted(4), [(500, 500, 10, 10)])
        self.assertIs(error_class_of(self.server.painted, 0), NoSuchPicture)

    def test_errors_of_pictures(self):
        self.assertIs(error_class_of(self.server.picture, 1, 500, 0, 100, 100), NoSuchPicture)
        self.assertIs(error_class_of(self.server.picture, 0, 101, 0, 100, 100), OutsidePicture)
        self.assertIs(error_class_of(self.server.picture, 0, 100, 0, 100, 100), TooManyPixels)


class Environment(unittest.TestCase):
    def setUp(self):
        self.server = server_of(policy=ALL_FLOWS, keymap="layout a{9:'x;}")
        self.client = Client(self.server).start()
        self.client.mapped()
        self.client.pointer()
        self.client.keyboard()
        self.server.rounds(1)
        self.client.told()

    def test_outputs_are_told(self):
        first, second = self.client.output(), self.client.output(7)
        other = Client(self.server, 1, "b").start()
        self.client.told()
        changed = Output(0, 0, 0, 200, 150, 1, 4)
        self.server.set_outputs([changed, Output(7, 200, 0, 30, 40, 2, 3)])
        self.assertEqual(self.client.told(), [
            (REGISTRY, "there", 23, "output"), (first, "size", 200, 150, 1, 4),
        ])
        self.assertEqual(other.told(), [(REGISTRY, "there", 23, "output")])
        third = self.client.new("output")
        told = self.client.ask(REGISTRY, "registry", "bind", 23, ("output", third))
        self.assertEqual(told, [(third, "size", 30, 40, 2, 3)])
        self.server.set_outputs([Output(7, 200, 0, 31, 40, 2, 3), Output(8, 0, 0, 5, 5, 1, 0)])
        self.assertEqual(self.client.told(), [
            (REGISTRY, "gone", 16), (REGISTRY, "there", 24, "output"), (third, "size", 31, 40, 2, 3),
        ])

    def test_an_output_object_that_has_ended(self):
        first = self.client.output()
        self.client.ask(first, "output", "destroy")
        self.assertEqual(self.client.ask(4, "compositor", "region", first), [])
        self.server.set_outputs([Output(0, 0, 0, 200, 150, 1, 4)])
        self.assertEqual(self.client.told(), [])

    def test_other_outputs_move_no_frame(self):
        before = self.server.windows()
        self.server.set_outputs([Output(0, 300, 300, 50, 50, 1, 0)])
        self.assertEqual(self.server.windows(), before)

    def test_other_outputs_move_the_pointer(self):
        self.server.tick(0)
        self.server.set_outputs([OUTPUT, Output(1, 200, 0, 50, 50, 1, 0)])
        self.server.motion(0, 240, 20)
        self.server.set_outputs([Output(3, 0, 0, 20, 30, 1, 0)])
        self.server.tick(0)
        self.client.told()
        # It is at (19, 20) now, and nothing was looked up.
        self.server.button(0, 1, True)
        self.assertEqual([row[1:] for row in self.client.told()][0][2:], (17, 10))

    def test_wrong_outputs(self):
        for outputs in ([], [OUTPUT, OUTPUT], [Output(0, 0, 0, 256, 257, 1, 0)]):
            self.assertIs(error_class_of(self.server.set_outputs, outputs), BadOutputs)
        self.server.tick(1)
        self.assertEqual((self.server.painted(0), self.client.told()), ([(0, 0, 44, 42)], []))
        self.server.motion(1, 150, 140)
        self.assertEqual(self.server.picture(0, 199, 149, 1, 1), [DESK])

    def test_keymaps(self):
        other = Client(self.server, 1, "b").start()
        keyboard = other.keyboard()
        other.told()
        self.server.set_keymap(" layout b { 9 : 'y ; } ")
        self.assertEqual(self.client.told()[0][1:], ("keymap", "layout b{9:'y;}"))
        self.assertEqual(other.told(), [(keyboard, "keymap", "layout b{9:'y;}")])
        self.server.switch(0, 0, self.server.windows()[0][2])
        self.client.told()
        self.server.key(0, 9, True)
        self.assertEqual(self.client.told()[1][2:], ("y", "y", 0))

    def test_a_key_that_is_held(self):
        self.server.switch(0, 0, self.server.windows()[0][2])
        self.server.key(0, 9, True)
        self.server.set_keymap("")
        self.client.told()
        self.server.key(0, 9, False)
        self.assertEqual(self.client.told(), [])

    def test_wrong_keymaps(self):
        self.assertIs(error_class_of(self.server.set_keymap, "layout"), BadKeymap)
        self.assertEqual(self.client.told(), [])
        self.server.switch(0, 0, self.server.windows()[0][2])
        self.client.told()
        self.server.key(0, 9, True)
        self.assertEqual(self.client.told()[1][2:], ("x", "x", 0))

    def test_policies(self):
        watch = self.client.new("watch")
        Client(self.server, 1, "b")
        self.client.ask(TRANSFER, "transfer", "watch", watch, "b")
        self.assertIs(error_class_of(self.server.set_policy, "allow"), BadPolicy)
        self.server.tick(0)
        self.assertEqual(self.client.told(), [(watch, "there")])
        self.assertIsNone(self.server.set_policy("# nothing"))
        self.assertEqual(self.client.told(), [])
        self.server.tick(0)
        self.assertEqual(self.client.told(), [(watch, "gone")])

    def test_the_guard_time(self):
        self.server.tick(100)
        self.server.motion(100, 10, 20)
        self.client.told()
        self.server.set_guard(50)
        self.assertEqual(self.client.told(), [])
        self.server.button(149, 1, True)
        self.assertEqual(self.client.told(), [])
        self.server.button(149, 1, False)
        self.server.button(150, 1, True)
        self.assertEqual([row[1] for row in self.client.told()][-2:], ["button", "configure"])


if __name__ == "__main__":
    unittest.main()
