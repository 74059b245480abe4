"""Points 101 to 103 and 109: slots and labels, queues, what is unread, and programs that end."""

import unittest

from sillwatch.errors import BadKeymap, BadOutputs, BadPolicy, SlotIsTaken
from sillwatch.octets.messages import cut_messages, encode_message
from sillwatch.outputs import Output
from sillwatch.server.server import Server
from tests.client import COMPOSITOR, OUTPUT, TRANSFER, Client, request_octets, server_of
from tests.helpers import error_class_of

SYNC = encode_message(1, 0, [("new", 2)])
EMPTY = (False, "", 0, 0)


def sync(number):
    return encode_message(1, 0, [("new", number)])


class Making(unittest.TestCase):
    def test_a_new_server(self):
        server = server_of()
        self.assertEqual(server.slots(), [EMPTY] * 4)
        self.assertEqual((server.windows(), server.captures(), server.kept(2)), ([], [], []))
        self.assertEqual((server.selection(False), server.selection(True)), ([], []))
        self.assertEqual(server.painted(0), [(0, 0, 200, 150)])
        self.assertEqual(server.picture(0, 5, 5, 2, 1), [0xFF202030] * 2)

    def test_errors_in_their_order(self):
        for outputs, policy, keymap, error in [
            ([], "x", "x", BadOutputs), ([OUTPUT, OUTPUT], "", "", BadOutputs), ([OUTPUT], "x", "x", BadPolicy),
            ([OUTPUT], "", "x", BadKeymap),
        ]:
            self.assertIs(error_class_of(Server, outputs, policy, keymap, 0), error)

    def test_outputs_stay_as_they_were(self):
        output = Output(0, 0, 0, 200, 150, 1, 0)
        server = server_of([output])
        output.turn = 3
        server.tick(1)
        self.assertEqual(server.painted(0), [])


class Slots(unittest.TestCase):
    def setUp(self):
        self.server = server_of()

    def test_admit(self):
        self.assertIsNone(self.server.admit(2, "x" * 100))
        self.assertEqual(self.server.slots(), [EMPTY, EMPTY, (True, "x" * 100, 0, 0), EMPTY])
        self.assertIs(error_class_of(self.server.admit, 2, "b"), SlotIsTaken)
        self.assertIs(error_class_of(self.server.admit, 2, "x" * 100), SlotIsTaken)
        self.assertEqual(self.server.slots()[2][1], "x" * 100)

    def test_without_a_program(self):
        self.assertEqual(self.server.send(0, SYNC), 0)
        self.assertEqual(self.server.receive(0, 100), ([], True))
        self.assertIsNone(self.server.leave(0))
        self.assertIs(self.server.end(0), False)
        self.assertIsNone(self.server.restart())
        self.server.rounds(2)
        self.assertEqual(self.server.slots(), [EMPTY] * 4)

    def test_with_a_program(self):
        self.server.admit(0, "a")
        self.assertEqual(self.server.send(0, SYNC + [1, 2]), 14)
        self.assertEqual(self.server.slots()[0], (True, "a", 14, 0))
        self.assertEqual(self.server.receive(0, 100), ([], False))
        self.server.rounds(1)
        self.assertEqual(self.server.slots()[0], (True, "a", 2, 2))
        octets, closed = self.server.receive(0, 100)
        self.assertIs(closed, False)
        self.assertEqual(cut_messages(octets), ([(2, 0, [0, 0, 0, 0]), (1, 1, [2, 0, 0, 0])], [], False))
        self.assertEqual(self.server.slots()[0], (True, "a", 2, 0))

    def test_a_label_behind_a_program(self):
        for way in (self.server.leave, self.server.end):
            self.server.admit(1, "b")
            self.server.send(1, SYNC + [7])
            way(1)
            self.assertEqual(self.server.slots()[1], (False, "b", 0, 0))

    def test_end_tells_whether_there_was_one(self):
        self.server.admit(1, "b")
        self.assertIs(self.server.end(1), True)
        self.assertIs(self.server.end(1), False)
        self.server.admit(1, "b")
        self.assertIsNone(self.server.leave(1))

    def test_restart(self):
        for slot in (0, 1, 3):
            self.server.admit(slot, f"p{slot}")
        self.server.restart()
        self.assertEqual(self.server.slots(), [(False, "p0", 0, 0), (False, "p1", 0, 0), EMPTY, (False, "p3", 0, 0)])


class Queues(unittest.TestCase):
    def setUp(self):
        self.server = server_of()
        self.server.admit(0, "a")

    def test_how_much_is_queued(self):
        self.assertEqual(self.server.send(0, [9] * 16000), 16000)
        self.assertEqual(self.server.send(0, [9] * 400), 384)
        self.assertEqual(self.server.send(0, [9]), 0)
        self.assertEqual(self.server.slots()[0][2], 16384)

    def test_messages_that_are_not_handled_count(self):
        self.assertEqual(self.server.send(0, SYNC * 1366), 16384)
        # 64 messages are handled with the 128 units of a round. The second one refuses the program here.
        self.setUp()
        for number in range(2, 1367):
            self.server.send(0, sync(number))
        self.assertEqual(self.server.send(0, sync(2)), 4)
        self.server.rounds(1)
        self.assertEqual(self.server.slots()[0][2:], (16384 - 64 * 12, 128))
        self.assertEqual(self.server.send(0, [0] * 2000), 768)

    def test_queues_of_slots(self):
        self.server.admit(1, "b")
        self.server.send(0, [9] * 16384)
        self.assertEqual(self.server.send(1, [9] * 100), 100)


class Unread(unittest.TestCase):
    def setUp(self):
        self.server = server_of()
        self.server.admit(0, "a")
        self.server.send(0, sync(2) + sync(3))
        self.server.rounds(1)

    def test_portions(self):
        self.assertEqual(self.server.receive(0, 11), ([], False))
        self.assertEqual(len(self.server.receive(0, 30)[0]), 24)
        self.assertEqual(len(self.server.receive(0, 12)[0]), 12)
        self.assertEqual(self.server.slots()[0][3], 1)

    def test_behind_the_program(self):
        self.server.leave(0)
        self.assertEqual(self.server.receive(0, 0), ([], False))
        octets, closed = self.server.receive(0, 36)
        self.assertEqual((len(octets), closed), (36, False))
        octets, closed = self.server.receive(0, 36)
        self.assertEqual((len(octets), closed), (12, True))
        self.assertEqual(self.server.receive(0, 36), ([], True))

    def test_a_program_that_left_is_told_nothing(self):
        server = server_of()
        client = Client(server).start()
        surface = client.surface()
        client.put(surface, "surface", "frame", client.new("callback"))
        client.ask(surface, "surface", "commit")
        client.put(1, "display", "sync", client.new("callback"))
        server.leave(0)
        server.rounds(1)
        server.tick(5)
        server.set_outputs([Output(7, 0, 0, 20, 20, 1, 0)])
        server.set_keymap("layout a{}")
        self.assertEqual(server.receive(0, 100), ([], True))

    def test_what_is_unread_is_gone_with_the_next_program(self):
        self.server.end(0)
        self.server.admit(0, "a")
        self.assertEqual(self.server.slots()[0], (True, "a", 0, 0))
        self.assertEqual(self.server.receive(0, 100), ([], False))


class NewPrograms(unittest.TestCase):
    def test_the_display_alone(self):
        server = server_of()
        client = Client(server).start()
        client.surface()
        server.leave(0)
        server.admit(0, "a")
        server.send(0, request_octets(COMPOSITOR, "compositor", "surface", 50))
        server.rounds(1)
        messages, _, _ = cut_messages(server.receive(0, 1000)[0])
        self.assertEqual(messages[0][:2], (1, 0))
        self.assertEqual(messages[0][2][:8], [1, 0, 0, 0, 3, 0, 0, 0])
        self.assertIs(server.slots()[0][0], False)

    def test_what_was_sent_does_not_wait(self):
        server = server_of()
        server.admit(0, "a")
        server.send(0, SYNC[:10])
        server.leave(0)
        server.admit(0, "a")
        server.send(0, SYNC)
        server.rounds(1)
        self.assertEqual(server.slots()[0], (True, "a", 0, 2))


class Labels(unittest.TestCase):
    """What is kept, and what was given, with a label that stays and with one that changes."""

    def setUp(self):
        self.server = server_of()
        self.client = Client(self.server).start()
        self.window, surface = self.client.mapped(name="n")
        self.client.pointer()
        self.server.tick(1)
        self.server.motion(1, 20, 20)
        for number, primary in [(1, 0), (2, 1)]:
            self.server.button(1, number, True)
            serial = self.client.told()[-1][2] if number == 2 else 1
            source = self.client.source((f"k{number}", [number]))
            self.client.put(TRANSFER, "transfer", "give", source, serial, primary)
            self.server.rounds(1)
            self.client.told()
        self.assertEqual(self.server.selection(False), [("a", [("k1", 1)])])
        self.assertEqual(self.server.selection(True), [("a", [("k2", 1)])])
        self.server.leave(0)

    def test_behind_the_program(self):
        self.assertEqual(len(self.server.selection(False)), 1)
        self.assertEqual(self.server.kept(0), [("n", (0, 0, 44, 42), None)])

    def test_the_same_label(self):
        self.server.admit(0, "a")
        self.assertEqual(len(self.server.selection(False)), 1)
        self.assertEqual(len(self.server.selection(True)), 1)
        self.assertEqual(len(self.server.kept(0)), 1)

    def test_another_label(self):
        self.server.admit(0, "b")
        self.assertEqual((self.server.selection(False), self.server.selection(True)), ([], []))
        self.assertEqual(self.server.kept(0), [])
        self.server.leave(0)
        self.server.admit(0, "a")
        self.assertEqual(self.server.kept(0), [])

    def test_another_slot(self):
        self.server.admit(1, "b")
        self.assertEqual(len(self.server.selection(False)), 1)
        self.assertEqual((len(self.server.kept(0)), self.server.kept(1)), (1, []))


class Ending(unittest.TestCase):
    """What is left of a program, in each way in which it ends."""

    def ways(self, client):
        server = client.server
        return {
            "leave": lambda: server.leave(0), "end": lambda: server.end(0), "restart": server.restart,
            "fault": lambda: (client.put(1, "display", "sync", 1), server.rounds(1)),
            "bad size": lambda: (server.send(0, [0] * 8), server.rounds(1)),
            "slow": lambda: self.leave_unread(client),
        }

    def leave_unread(self, client):
        """Ask for much, and read nothing, over as many rounds as it needs."""
        for _ in range(9):
            for _ in range(64):
                client.put(1, "display", "sync", client.new("callback"))
            client.server.rounds(1)

    def test_what_is_told_and_left(self):
        errors = {"fault": (1, 6, "number cannot be given"), "bad size": (1, 1, "bad size"), "slow": (1, 7, "too slow")}
        for way in ("leave", "end", "restart", "fault", "bad size", "slow"):
            with self.subTest(way=way):
                server = server_of(policy="allow share, name, capture from any to any;")
                client = Client(server).start()
                plain, _ = client.mapped()
                named, _ = client.mapped(name="n")
                client.ask(TRANSFER, "transfer", "send", "k", [1])
                client.ask(TRANSFER, "transfer", "ask", client.new("capture"), client.output(), 0, 0, 1, 1)
                client.told()
                server.switch(0, 0, named)
                client.told()
                frame = client.frame(named)
                self.ways(client)[way]()
                self.assertEqual(server.slots()[0][:3], (False, "a", 0))
                told = client.told()
                self.assertEqual(told[-1:], [(1, "error", *errors[way])] if way in errors else [])
                self.assertEqual((server.windows(), server.captures()), ([], []))
                self.assertEqual(server.kept(0), [("n", frame, None)])
                self.assertEqual(server.receive(0, 100), ([], True))
                server.key(0, 5, True)
                other = Client(server, 1, "b").start()
                fetch, watch = other.new("fetch"), other.new("watch")
                other.put(TRANSFER, "transfer", "fetch", fetch, "k")
                other.ask(TRANSFER, "transfer", "watch", watch, "a")
                server.tick(1)
                self.assertEqual(other.told(), [(watch, "gone")])

    def test_no_other_program_is_told(self):
        server = server_of()
        client = Client(server).start()
        client.mapped(name="n")
        other = Client(server, 1, "b").start()
        other.mapped()
        server.rounds(1)
        other.told()
        server.leave(0)
        server.rounds(1)
        self.assertEqual(other.told(), [])


class Keeping(unittest.TestCase):
    def setUp(self):
        self.server = server_of([Output(0, 0, 0, 200, 150, 1, 0)])
        self.client = Client(self.server).start()

    def names(self):
        return [row[0] for row in self.server.kept(0)]

    def test_several_windows_at_once(self):
        for name in ["a", "", "b", "a", "c"]:
            self.client.mapped(name=name)
        self.server.leave(0)
        # The one made last comes first, and of each name the first one stays.
        self.assertEqual(self.server.kept(0), [
            ("c", (96, 96, 44, 42), None), ("a", (72, 72, 44, 42), None), ("b", (48, 48, 44, 42), None),
        ])

    def test_in_front_of_those_that_were_kept(self):
        for name in ["a", "b"]:
            self.client.mapped(name=name)
        self.server.leave(0)
        client = Client(self.server).start()
        client.mapped(name="c")
        client.mapped(name="a")
        self.server.leave(0)
        self.assertEqual(self.names(), ["a", "c", "b"])

    def test_windows_that_are_not_mapped(self):
        self.client.window("a")
        window, surface = self.client.mapped(name="b")
        self.client.hide(surface)
        self.assertEqual(self.names(), ["b"])
        self.client.put(window, "window", "name", "c")
        self.server.rounds(1)
        self.server.leave(0)
        self.assertEqual(self.names(), ["b"])

    def test_destroyed_by_a_request(self):
        window, _ = self.client.mapped(name="a")
        other, _ = self.client.mapped()
        self.client.ask(other, "window", "destroy")
        self.assertEqual(self.names(), [])
        self.client.ask(window, "window", "destroy")
        self.assertEqual(self.server.kept(0), [("a", (0, 0, 44, 42), None)])
        unmapped, _ = self.client.window("b")
        self.client.ask(unmapped, "window", "destroy")
        self.assertEqual(self.names(), ["a"])

    def test_what_keeps_nothing(self):
        window, _ = self.client.mapped(name="a")
        self.client.ask(window, "window", "smaller", 20, 20)
        self.client.ask(window, "window", "raise", 1)
        self.assertEqual(self.names(), [])

    def test_maximized_and_hidden(self):
        maximized, _ = self.client.mapped(name="m")
        hidden, _ = self.client.mapped(name="h")
        # The buttons of the title bars: maximize of the first one, minimize of the second one.
        for window, x, y in [(maximized, 44 - 15, 5), (hidden, 24 + 44 - 25, 29)]:
            self.server.switch(0, 0, window)
            self.server.tick(0)
            self.server.motion(0, x, y)
            self.server.button(0, 1, True)
            self.server.button(0, 1, False)
        self.assertEqual([row[5:8] for row in self.server.windows()], [
            ((0, 0, 200, 150), True, False), ((24, 24, 44, 42), False, True),
        ])
        self.server.end(0)
        self.assertEqual(self.server.kept(0), [("h", (24, 24, 44, 42), None), ("m", (0, 0, 200, 150), (0, 0, 44, 42))])

    def test_how_many(self):
        for first in (0, 16):
            client = self.client if first == 0 else Client(self.server).start()
            for number in range(16):
                client.mapped(20, 20, name=f"n{first + number}")
            self.server.leave(0)
        self.assertEqual(self.names(), [f"n{number}" for number in range(31, -1, -1)])
        client = Client(self.server).start()
        client.mapped(name="n0")
        self.server.leave(0)
        self.assertEqual((len(self.names()), self.names()[:2], self.names()[-1]), (32, ["n0", "n31"], "n1"))
        client = Client(self.server).start()
        client.mapped(name="new")
        self.server.leave(0)
        self.assertEqual((len(self.names()), self.names()[:2], self.names()[-1]), (32, ["new", "n0"], "n2"))

    def test_a_kept_frame_is_used(self):
        window, _ = self.client.mapped(60, 50, name="a")
        self.client.mapped(name="b")
        self.client.ask(window, "window", "smaller", 30, 20)
        self.assertEqual(self.client.frame(window), (0, 0, 34, 32))
        self.server.leave(0)
        client = Client(self.server).start()
        client.mapped()
        window, _ = client.mapped(60, 50, name="a")
        self.assertEqual(client.frame(window), (0, 0, 34, 32))
        self.assertEqual(self.names(), ["b", "a"])

    def test_what_is_returned_is_new(self):
        self.client.mapped(name="a")
        self.server.leave(0)
        self.server.kept(0).clear()
        self.server.slots().clear()
        self.assertEqual(self.names(), ["a"])


class TheDesk(unittest.TestCase):
    def test_window_rows(self):
        server = server_of()
        client = Client(server).start()
        other = Client(server, 2, "c").start()
        first, _ = client.mapped(name="n")
        client.ask(first, "window", "title", "T")
        second, _ = other.mapped()
        third, _ = client.mapped()
        client.window()
        server.switch(0, 0, first)
        # A window that is mapped comes to the bottom.
        self.assertEqual(server.windows(), [
            (0, "a", third, "", "", (24, 24, 44, 42), False, False, False),
            (2, "c", second, "", "", (0, 0, 44, 42), False, False, False),
            (0, "a", first, "T", "n", (0, 0, 44, 42), False, False, True),
        ])


if __name__ == "__main__":
    unittest.main()
