"""Point 110: why a program was told something."""

import unittest

from sillwatch.octets.messages import encode_message
from sillwatch.outputs import Output
from tests.client import ALL_FLOWS, MEMORY, OUTPUT, TRANSFER, Client, server_of
from tests.helpers import error_class_of


class WhyTest(unittest.TestCase):
    def setUp(self):
        self.server = server_of(policy=ALL_FLOWS, keymap="layout a{9:'x;}")
        self.client = Client(self.server).start()
        self.forget()

    def forget(self):
        """Let all that was told so far be told by steps that are not kept any more."""
        self.client.told()
        for _ in range(1000):
            self.server.send(3, [])
        self.assertIsNone(self.server.why(0, 0))

    def causes(self, slot=0):
        """Return the causes of all messages that a slot was told by the steps that are kept."""
        found = []
        while self.server.why(slot, len(found)) is not None:
            found.append(self.server.why(slot, len(found)))
        return found

    def words(self):
        return [(word, request) for _, word, request in self.causes()]


class Steps(unittest.TestCase):
    def setUp(self):
        self.server = server_of()

    def step_of(self, call):
        """Return how many steps a call makes: how far it brings the next ones behind a message."""
        server = self.server
        server.admit(0, "a")
        server.send(0, encode_message(1, 0, [("new", 2)]))
        call(server)
        server.rounds(1)
        return server.why(0, 0)[0] - 2

    def test_each_call(self):
        for name, call, count in [
            ("admit", lambda server: server.admit(1, "b"), 1), ("send", lambda server: server.send(0, [1]), 1),
            ("send to nobody", lambda server: server.send(3, [1]), 1), ("leave", lambda server: server.leave(2), 1),
            ("receive", lambda server: server.receive(0, 5), 1), ("end", lambda server: server.end(2), 1),
            ("tick", lambda server: server.tick(0), 1), ("motion", lambda server: server.motion(0, 1, 1), 1),
            ("button", lambda server: server.button(0, 1, False), 1), ("axis", lambda server: server.axis(0, 1, 1), 1),
            ("key", lambda server: server.key(0, 1, True), 1), ("switch", lambda server: server.switch(0, 1, 1), 1),
            ("paste", lambda server: server.paste(True), 1), ("policy", lambda server: server.set_policy(""), 1),
            ("outputs", lambda server: server.set_outputs([OUTPUT]), 1),
            ("keymap", lambda server: server.set_keymap(""), 1), ("guard", lambda server: server.set_guard(5), 1),
            ("no rounds", lambda server: server.rounds(0), 0),
        ]:
            with self.subTest(name=name):
                self.setUp()
                self.assertEqual(self.step_of(call), count)

    def test_rounds_and_restarts(self):
        self.server.admit(1, "b")
        self.server.rounds(3)
        self.server.restart()
        self.server.admit(0, "a")
        self.server.send(0, encode_message(1, 0, [("new", 2)]))
        self.server.rounds(1)
        self.assertEqual(self.server.why(0, 0), (7, "round", [1, 0]))

    def test_calls_that_raise(self):
        def wrong(server):
            for call, arguments in [
                (server.admit, (0, "b")), (server.allow, (1, True)), (server.set_outputs, ([],)),
                (server.set_policy, ("x",)), (server.set_keymap, ("x",)), (server.picture, (9, 0, 0, 1, 1)),
            ]:
                self.assertIsNotNone(error_class_of(call, *arguments))

        self.assertEqual(self.step_of(wrong), 0)
        self.server.tick(5)
        for call, arguments in [
            (self.server.tick, (4,)), (self.server.motion, (4, 0, 0)), (self.server.button, (4, 1, True)),
            (self.server.axis, (4, 0, 0)), (self.server.key, (4, 1, True)), (self.server.switch, (4, 0, 0)),
        ]:
            self.assertIsNotNone(error_class_of(call, *arguments))
        self.server.send(0, encode_message(1, 0, [("new", 2)]))
        self.server.rounds(1)
        self.assertEqual(self.server.why(0, 2), (5, "round", [1, 0]))

    def test_what_only_looks(self):
        def look(server):
            server.captures(), server.selection(False), server.windows(), server.slots(), server.kept(0)
            server.picture(0, 0, 0, 1, 1), server.painted(0), server.why(0, 0)

        self.assertEqual(self.step_of(look), 0)


class Numbers(WhyTest):
    def sync(self):
        self.client.ask(1, "display", "sync", self.client.new("callback"))

    def test_no_such_message(self):
        self.sync()
        for number in (-1, 2, 100):
            self.assertIsNone(self.server.why(0, number))
        self.assertIsNone(self.server.why(1, 0))

    def test_the_last_thousand_steps(self):
        self.sync()
        # It was made by the last step but one, as receiving is a step too.
        self.assertEqual(self.causes(), [(998, "round", [1, 0])] * 2)
        self.server.send(3, [])
        self.assertEqual(self.causes(), [(997, "round", [1, 0])] * 2)
        self.sync()
        self.assertEqual([row[0] for row in self.causes()], [994, 994, 998, 998])
        for _ in range(994):
            self.server.send(3, [])
        self.assertEqual([row[0] for row in self.causes()], [0, 0, 4, 4])
        self.server.send(3, [])
        self.assertEqual([row[0] for row in self.causes()], [3, 3])

    def test_each_message_goes_with_its_step(self):
        keyboard = self.client.keyboard()
        self.forget()
        for text in ("", "layout a{}"):
            self.server.set_keymap(text)
        self.assertEqual(self.client.told(), [(keyboard, "keymap", ""), (keyboard, "keymap", "layout a{}")])
        self.assertEqual(self.causes(), [(997, "keymap", None), (998, "keymap", None)])
        for _ in range(998):
            self.server.send(3, [])
        self.assertEqual(self.causes(), [(0, "keymap", None)])

    def test_what_is_unread_does_not_matter(self):
        self.client.put(1, "display", "sync", self.client.new("callback"))
        self.server.rounds(1)
        before = [row[1:] for row in self.causes()]
        self.client.told()
        self.assertEqual([row[1:] for row in self.causes()], before)
        self.server.leave(0)
        Client(self.server, 0, "z")
        self.assertEqual([row[1:] for row in self.causes()], before)

    def test_what_is_returned_is_new(self):
        self.sync()
        self.server.why(0, 0)[2].clear()
        self.assertEqual(self.server.why(0, 0)[2], [1, 0])


class Words(WhyTest):
    def ready(self):
        """Have a window with the focus and the pointer, and return it with its surface."""
        window, surface = self.client.mapped()
        self.client.pointer()
        self.client.keyboard()
        self.server.tick(0)
        self.server.motion(0, 10, 20)
        self.server.button(0, 1, True)
        self.server.button(0, 1, False)
        self.forget()
        return window, surface

    def test_rounds(self):
        surface = self.client.surface()
        self.forget()
        buffer = self.client.new("buffer")
        self.client.put(MEMORY, "memory", "buffer", buffer, 2, 2)
        self.client.put(surface, "surface", "attach", buffer)
        self.client.put(surface, "surface", "commit")
        self.client.ask(buffer, "buffer", "destroy")
        self.assertEqual(self.words(), [("round", [surface, 3]), ("round", [buffer, 2])])

    def test_frames(self):
        window, _ = self.ready()
        self.client.ask(window, "window", "smaller", 20, 20)
        self.assertEqual(self.words(), [("round", None)])

    def test_lost_by_a_message(self):
        window, _ = self.ready()
        self.client.ask(window, "window", "destroy")
        # `removed`, and the keyboard's `leave`.
        self.assertEqual(self.words(), [("round", [window, 0])] * 2)

    def test_errors(self):
        self.client.ask(1, "display", "sync", 1)
        self.assertEqual(self.words(), [("round", [1, 0])])
        self.setUp()
        self.server.send(0, encode_message(77, 65535, []))
        self.server.rounds(1)
        self.assertEqual(self.words(), [("round", [77, 65535])])
        self.setUp()
        self.server.send(0, [0] * 8)
        self.server.rounds(1)
        self.assertEqual(self.words(), [("round", None)])

    def fill(self, count):
        for at_number in range(count // 2):
            self.client.put(1, "display", "sync", self.client.new("callback"))
            if at_number % 60 == 59:
                self.server.rounds(1)
        self.server.rounds(1)

    def test_too_slow_behind_a_message(self):
        self.fill(1024)
        self.client.put(1, "display", "sync", self.client.new("callback"))
        self.server.rounds(1)
        self.assertEqual(self.words()[-2:], [("round", [1, 0])] * 2)
        self.assertEqual(self.client.told()[-1][1], "error")

    def test_too_slow_behind_a_round(self):
        window, _ = self.ready()
        self.fill(1024)
        self.client.put(window, "window", "smaller", 20, 20)
        self.server.rounds(1)
        self.assertEqual(self.words()[-2:], [("round", None)] * 2)
        self.assertEqual(self.client.told()[-1][1], "error")

    def test_actions(self):
        window, _ = self.ready()
        self.server.motion(0, 11, 20)
        self.server.axis(0, 1, 1)
        self.server.key(0, 9, True)
        self.server.button(0, 1, True)
        self.server.button(0, 1, False)
        self.client.hide(self.client.surface())
        self.server.switch(0, 0, window)
        self.assertEqual(self.words(), [("action", None)] * 8)
        self.assertEqual([row[0] for row in self.causes()][1] - self.causes()[0][0], 1)

    def test_ticks(self):
        surface = self.client.surface()
        self.client.put(surface, "surface", "frame", self.client.new("callback"))
        self.client.put(TRANSFER, "transfer", "watch", self.client.new("watch"), "x")
        self.client.ask(surface, "surface", "commit")
        self.server.tick(0)
        self.assertEqual(self.words(), [("tick", None)] * 3)

    def test_pastes_and_answers(self):
        self.ready()
        self.server.button(0, 1, True)
        serial = [row[2] for row in self.client.told() if row[1] == "button"][0]
        source = self.client.source(("k", []))
        self.client.ask(TRANSFER, "transfer", "give", source, serial, 0)
        self.client.ask(TRANSFER, "transfer", "ask", self.client.new("capture"), self.client.output(), 0, 0, 1, 1)
        self.forget()
        self.server.paste(False)
        self.server.allow(1, True)
        self.assertEqual(self.words(), [("take", None)] * 2 + [("answer", None)])

    def test_drags(self):
        self.ready()
        self.server.button(0, 1, True)
        serial = [row[2] for row in self.client.told() if row[1] == "button"][0]
        source = self.client.source(("k", []))
        self.client.ask(TRANSFER, "transfer", "drag", source, serial)
        self.forget()
        self.server.motion(0, 12, 20)
        self.server.button(0, 1, False)
        told = [row[1] for row in self.client.told()]
        self.assertEqual(told, ["motion", "hover", "hover_kind", "button", "motion", "offer", "kind", "ended"])
        self.assertEqual(self.words(), [("action", None)] * 8)

    def test_outputs_and_keymaps(self):
        self.client.keyboard()
        self.forget()
        self.server.set_outputs([OUTPUT, Output(3, 200, 0, 5, 5, 1, 0)])
        self.server.set_keymap("")
        self.assertEqual(self.words(), [("outputs", None), ("keymap", None)])

    def test_frames_behind_a_paste(self):
        self.ready()
        self.server.set_outputs([Output(0, 100, 0, 100, 150, 1, 0)])
        self.forget()
        self.server.paste(False)
        self.assertEqual(self.words(), [("take", None)])


if __name__ == "__main__":
    unittest.main()
