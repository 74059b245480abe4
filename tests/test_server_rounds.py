"""Points 104 to 106: rounds and their units, how a message is handled, and programs that are too slow."""

import unittest

from sillwatch.octets.messages import encode_message
from sillwatch.outputs import Output
from tests.client import (
    COMPOSITOR, MEMORY, OUTPUT, REGISTRY, SEAT, SLOW, TRANSFER, WINDOWS, Client, request_octets, server_of,
)
from tests.program import at


def sync(number):
    return encode_message(1, 0, [("new", number)])


def error(client):
    """Return the fields of the error by which a program has ended, which is all that it was told."""
    told = client.told()
    assert len(told) == 1 and told[0][:2] == (1, "error") and not client.is_there(), told
    return told[0][2:]


class Units(unittest.TestCase):
    def setUp(self):
        self.server = server_of()
        self.client = Client(self.server).start()
        self.number = 1000

    def put_syncs(self, count):
        """Put messages that cost 2 units each."""
        for _ in range(count):
            self.number += 1
            self.client.kinds[self.number] = "callback"
            assert self.server.send(0, sync(self.number)) == 12

    def done(self):
        """Return how many callbacks are told with a round."""
        self.server.rounds(1)
        return len([row for row in self.client.told() if row[1] == "done"])

    def put_send(self, size):
        """Put a message of a size of at least 20 octets."""
        octets = request_octets(TRANSFER, "transfer", "send", "", [7] * (size - 20))
        self.assertEqual(len(octets), size)
        self.assertEqual(self.server.send(0, octets), size)

    def test_messages_of_two_units(self):
        self.put_syncs(65)
        self.assertEqual(self.done(), 64)
        self.assertEqual(self.done(), 1)
        self.assertEqual(self.done(), 0)

    def test_units_that_are_left_are_lost(self):
        self.put_syncs(1)
        self.assertEqual(self.done(), 1)
        self.put_syncs(65)
        self.assertEqual(self.done(), 64)

    def test_units_that_suffice_just(self):
        # 33 + 47 * 2 + 1 = 128 units: 8,000 octets cost 33.
        for size, before, expected in [(8000, 47, 1), (8000, 48, 0), (256, 63, 1), (260, 62, 1), (260, 63, 0)]:
            with self.subTest(size=size, before=before):
                self.setUp()
                self.put_syncs(before)
                self.put_send(size)
                self.put_syncs(1)
                self.server.rounds(1)
                queued = self.server.slots()[0][2]
                self.assertEqual(queued <= 12, expected == 1)

    def test_a_message_that_waits_holds_up_others(self):
        self.put_syncs(60)
        self.put_send(8000)
        self.put_syncs(1)
        self.assertEqual(self.done(), 60)
        self.assertEqual(self.done(), 1)

    def test_each_slot_has_its_own(self):
        other = Client(self.server, 1, "b").start()
        self.put_syncs(64)
        for number in range(2000, 2064):
            other.kinds[number] = "callback"
            self.server.send(1, sync(number))
        self.assertEqual(self.done(), 64)
        self.assertEqual(len(other.told()), 128)

    def test_several_rounds(self):
        self.put_syncs(130)
        self.server.rounds(0)
        self.assertEqual(self.server.slots()[0][2], 130 * 12)
        self.server.rounds(2)
        self.assertEqual(self.server.slots()[0][2], 24)

    def test_half_a_message_waits(self):
        self.server.send(0, sync(1001)[:11])
        self.assertEqual(self.done(), 0)
        self.client.kinds[1001] = "callback"
        self.server.send(0, sync(1001)[11:])
        self.assertEqual(self.done(), 1)


class BadSizes(unittest.TestCase):
    def setUp(self):
        self.server = server_of()
        self.client = Client(self.server)

    def test_bad_size(self):
        for octets in ([0] * 8, [1, 0, 0, 0, 0, 0, 9, 0], [1, 0, 0, 0, 0, 0, 4, 80]):
            self.setUp()
            self.server.send(0, octets)
            self.server.rounds(1)
            self.assertEqual(error(self.client), (1, 1, "bad size"))

    def test_behind_messages(self):
        self.client.kinds[5] = "callback"
        self.server.send(0, sync(5) + [0] * 8)
        self.server.rounds(1)
        self.assertEqual(self.client.told(), [(5, "done", 0), (1, "removed", 5), (1, "error", 1, 1, "bad size")])

    def test_also_if_no_units_are_left(self):
        for number in range(2, 66):
            self.client.kinds[number] = "callback"
            self.server.send(0, sync(number))
        self.server.send(0, [0] * 8)
        self.server.rounds(1)
        self.assertEqual(self.client.told()[-1], (1, "error", 1, 1, "bad size"))

    def test_not_behind_a_message_that_waits(self):
        for number in range(2, 67):
            self.client.kinds[number] = "callback"
            self.server.send(0, sync(number))
        self.server.send(0, [0] * 8)
        self.server.rounds(1)
        self.assertIs(self.client.is_there(), True)
        self.server.rounds(1)
        self.assertIs(self.client.is_there(), False)

    def test_seven_octets_wait(self):
        self.server.send(0, [0] * 7)
        self.server.rounds(3)
        self.assertIs(self.client.is_there(), True)


class Handling(unittest.TestCase):
    def setUp(self):
        self.server = server_of()
        self.client = Client(self.server).start()

    def test_faults_of_looking(self):
        for octets, expected in [
            (encode_message(99, 0, []), (1, 3, "no such object")),
            (encode_message(1, 2, []), (1, 4, "no such request")),
            (encode_message(1, 0, []), (1, 2, "bad length")),
            (encode_message(1, 0, [("uint", 0)]), (1, 2, "object missing")),
            (encode_message(1, 0, [("new", 1)]), (1, 6, "number cannot be given")),
            (encode_message(1, 0, [("new", COMPOSITOR)]), (1, 6, "number cannot be given")),
            (encode_message(1, 0, [("new", 4278190080)]), (1, 6, "number cannot be given")),
            (request_octets(REGISTRY, "registry", "bind", 1, ("seat", 50)), (REGISTRY, 8, "no such global")),
            (request_octets(WINDOWS, "windows", "window", 50, 60), (WINDOWS, 3, "no such object")),
            (request_octets(WINDOWS, "windows", "window", 50, SEAT), (WINDOWS, 8, "object of another kind")),
            (request_octets(MEMORY, "memory", "buffer", 50, 0, 1), (MEMORY, 1, "bad size")),
        ]:
            with self.subTest(expected=expected):
                self.setUp()
                self.server.send(0, octets + sync(70))
                self.server.rounds(1)
                self.assertEqual(error(self.client), expected)
                self.assertEqual(self.server.slots()[0][2], 0)

    def test_how_many_objects(self):
        for number in range(504):
            self.client.put(1, "display", "registry", self.client.new("registry"))
            if number % 50 == 0:
                self.server.rounds(1)
                self.client.told()
        for _ in range(9):
            self.server.rounds(1)
            self.client.told()
        # The display, one registry, six globals, and those.
        self.client.put(1, "display", "sync", self.client.new("callback"))
        self.server.rounds(1)
        self.assertEqual(error(self.client), (1, 7, "too many objects"))

    def test_numbers_that_are_free_again(self):
        region = self.client.new("region")
        for _ in range(3):
            self.assertEqual(self.client.ask(COMPOSITOR, "compositor", "region", region), [])
            self.assertEqual(self.client.ask(region, "region", "destroy"), [(1, "removed", region)])

    def test_every_destroyed_object_is_told_of(self):
        client = self.client
        numbers = {}
        for interface, arguments in [("surface", ()), ("region", ())]:
            numbers[interface] = client.new(interface)
            client.put(COMPOSITOR, "compositor", interface, numbers[interface], *arguments)
        for interface in ("pointer", "keyboard"):
            numbers[interface] = client.new(interface)
            client.put(SEAT, "seat", interface, numbers[interface])
        numbers["source"] = client.new("source")
        client.put(TRANSFER, "transfer", "source", numbers["source"])
        for interface in ("fetch", "watch"):
            numbers[interface] = client.new(interface)
            client.put(TRANSFER, "transfer", interface, numbers[interface], "x")
        numbers["buffer"] = client.new("buffer")
        client.put(MEMORY, "memory", "buffer", numbers["buffer"], 1, 1)
        numbers["output"] = client.output()
        numbers["capture"] = client.new("capture")
        client.put(TRANSFER, "transfer", "ask", numbers["capture"], numbers["output"], 0, 0, 1, 1)
        window, surface = client.mapped()
        numbers["popup"] = client.popup(window, at(0, 0, 5, 5))[0]
        self.server.rounds(1)
        client.told()
        self.assertEqual(len(self.server.captures()), 1)
        for interface, number in numbers.items():
            self.assertEqual(client.ask(number, interface, "destroy"), [(1, "removed", number)])
        self.assertEqual(self.server.captures(), [])
        self.assertEqual(client.ask(window, "window", "destroy"), [(1, "removed", window)])
        for interface, number in [("memory", 3), ("compositor", 4), ("joiner", 5), ("transfer", 8)]:
            self.assertEqual(client.ask(number, interface, "destroy"), [(1, "removed", number)])

    def test_what_ends_besides(self):
        surface = self.client.surface()
        callbacks = [self.client.new("callback") for _ in range(3)]
        for callback in callbacks[:2]:
            self.client.put(surface, "surface", "frame", callback)
        self.client.put(surface, "surface", "commit")
        self.client.put(surface, "surface", "frame", callbacks[2])
        self.client.put(surface, "surface", "destroy")
        self.server.rounds(1)
        self.assertEqual(self.client.told(), [(1, "removed", number) for number in callbacks + [surface]])
        self.server.tick(1)
        self.assertEqual(self.client.told(), [])

    def test_what_is_told_comes_first(self):
        window, _ = self.client.mapped()
        self.server.rounds(1)
        popup, surface = self.client.popup(window, at(0, 0, 5, 5))
        self.client.told()
        self.assertEqual(self.client.ask(window, "window", "destroy"), [(popup, "done"), (1, "removed", window)])

    def test_a_fault_of_a_commit(self):
        surface = self.client.surface()
        window = self.client.new("window")
        self.client.ask(WINDOWS, "windows", "window", window, surface)
        self.client.put(MEMORY, "memory", "buffer", self.client.new("buffer"), 9, 9)
        self.client.put(surface, "surface", "attach", self.client.next)
        self.client.put(surface, "surface", "commit")
        self.server.rounds(1)
        # The release is not told.
        self.assertEqual(error(self.client), (window, 3, "not configured"))
        self.assertEqual((self.server.windows(), self.server.slots()[0][2]), ([], 0))

    def test_the_first_commit_is_answered_at_once(self):
        surface = self.client.surface()
        window = self.client.new("window")
        self.client.put(WINDOWS, "windows", "window", window, surface)
        callback = self.client.new("callback")
        self.client.put(surface, "surface", "commit")
        self.client.put(1, "display", "sync", callback)
        self.server.rounds(1)
        self.assertEqual(self.client.told(), [
            (window, "configure", 1, 0, 0, 0), (callback, "done", 0), (1, "removed", callback),
        ])

    def test_frames_behind_a_round(self):
        window, surface = self.client.window()
        told = self.client.paint(surface, 40, 30)
        self.assertEqual(told, [(window, "output", 0), (window, "configure", 2, 40, 30, 0)])
        self.server.rounds(1)
        self.assertEqual(self.client.told(), [])
        self.assertEqual(self.client.ask(window, "window", "smaller", 20, 20), [(window, "configure", 3, 20, 20, 0)])

    def test_frames_behind_all_turns(self):
        # What the first program is told of its frames comes behind the turn of the second one.
        other = Client(self.server, 1, "b").start()
        window, surface = self.client.window()
        other_window, other_surface = other.window()
        for client, number in [(self.client, surface), (other, other_surface)]:
            buffer = client.new("buffer")
            client.put(MEMORY, "memory", "buffer", buffer, 20, 20)
            client.put(number, "surface", "attach", buffer)
            client.put(number, "surface", "commit")
            client.put(1, "display", "sync", client.new("callback"))
        self.server.rounds(1)
        for client, number in [(self.client, window), (other, other_window)]:
            self.assertEqual([row[:2] for row in client.told()][-2:], [(number, "output"), (number, "configure")])

    def test_what_a_message_loses(self):
        keyboard = self.client.keyboard()
        window, surface = self.client.mapped()
        self.server.rounds(1)
        self.client.told()
        self.server.switch(0, 0, window)
        self.assertEqual(self.client.told()[0], (keyboard, "enter", surface))
        callback = self.client.new("callback")
        self.client.put(window, "window", "destroy")
        self.client.put(1, "display", "sync", callback)
        self.server.rounds(1)
        self.assertEqual(self.client.told(), [
            (1, "removed", window), (keyboard, "leave", surface), (callback, "done", 0), (1, "removed", callback),
        ])

    def test_a_grant_is_spent(self):
        window, _ = self.client.mapped()
        lower, _ = self.client.mapped()
        self.client.pointer()
        self.server.tick(0)
        self.server.motion(0, 10, 20)
        self.server.button(0, 1, True)
        self.client.told()
        self.client.ask(lower, "window", "raise", 2)
        self.assertEqual([row[2] for row in self.server.windows()], [lower, window])
        self.client.ask(lower, "window", "raise", 1)
        self.assertEqual([row[2] for row in self.server.windows()], [window, lower])
        self.client.ask(window, "window", "raise", 1)
        self.assertEqual([row[2] for row in self.server.windows()], [window, lower])

    def test_requests_of_the_display(self):
        self.server.tick(2 ** 32 + 9)
        callback = self.client.new("callback")
        self.assertEqual(self.client.ask(1, "display", "sync", callback), [(callback, "done", 9), (1, "removed", callback)])

    def test_the_time_of_the_last_tick(self):
        self.server.tick(7)
        self.server.motion(9, 0, 0)
        callback = self.client.new("callback")
        self.assertEqual(self.client.ask(1, "display", "sync", callback)[0], (callback, "done", 7))


class TooSlow(unittest.TestCase):
    def setUp(self):
        self.server = server_of()
        self.client = Client(self.server).start()

    def fill(self, count):
        """Leave so many messages unread, an even number."""
        for at_number in range(count // 2):
            self.client.put(1, "display", "sync", self.client.new("callback"))
            if at_number % 60 == 59:
                self.server.rounds(1)
        self.server.rounds(1)
        self.assertEqual(self.server.slots()[0][3], count)

    def last(self):
        return self.client.told()[-1:]

    def test_behind_a_message(self):
        self.fill(1024)
        self.assertIs(self.client.is_there(), True)
        self.client.put(1, "display", "sync", self.client.new("callback"))
        self.client.put(1, "display", "sync", self.client.new("callback"))
        self.server.rounds(1)
        # The first one makes it too slow, so the second one is not handled.
        self.assertEqual(self.server.slots()[0], (False, "a", 0, 1027))
        self.assertEqual(self.last(), SLOW)

    def test_one_that_is_read_in_time(self):
        self.fill(1024)
        self.server.receive(0, 24)
        self.client.put(1, "display", "sync", self.client.new("callback"))
        self.server.rounds(1)
        self.assertEqual(self.server.slots()[0], (True, "a", 0, 1024))

    def test_octets(self):
        # An offer's parts are messages of up to 1,044 octets.
        server = server_of(policy="allow paste from any to any;")
        client = Client(server).start()
        window, _ = client.mapped()
        client.pointer()
        server.tick(0)
        server.motion(0, 10, 20)
        server.button(0, 1, True)
        source = client.source(("k", [7] * 2000))
        client.ask(TRANSFER, "transfer", "give", source, 1, 0)
        server.paste(False)
        offer = [row for row in client.told() if row[1] == "offer"][0][2]
        for _ in range(62):
            client.put(offer, "offer", "read", "k", 0, 1024)
        server.rounds(1)
        self.assertEqual(server.slots()[0][3], 62)
        # 62 messages of 1,048 octets, and one of 560.
        client.put(offer, "offer", "read", "k", 0, 65536 - 62 * 1048 - 24)
        server.rounds(1)
        self.assertEqual(server.slots()[0], (True, "a", 0, 63))
        client.put(1, "display", "sync", client.new("callback"))
        server.rounds(1)
        self.assertEqual(client.told()[-1:], SLOW)

    def test_behind_a_round(self):
        window, surface = self.client.mapped()
        self.server.rounds(1)
        self.client.told()
        self.fill(1024)
        self.client.put(window, "window", "smaller", 20, 20)
        self.server.rounds(1)
        self.assertEqual([row[1] for row in self.client.told()[-2:]], ["configure", "error"])

    def test_behind_an_action(self):
        self.client.mapped()
        self.client.pointer()
        self.server.rounds(1)
        self.client.told()
        self.fill(1024)
        self.server.motion(0, 10, 20)
        self.assertEqual([row[1] for row in self.client.told()[-2:]], ["enter", "error"])
        self.assertEqual(self.server.windows(), [])

    def test_behind_each_kind_of_action(self):
        for deed, words in [
            (lambda window: self.server.button(0, 1, True), ["button", "error"]),
            (lambda window: self.server.axis(0, 1, 1), ["axis", "error"]),
            (lambda window: self.server.key(0, 1, True), ["symbol", "error"]),
            (lambda window: self.server.switch(0, 0, window), ["configure", "error"]),
        ]:
            self.setUp()
            window, _ = self.client.mapped()
            other, _ = self.client.mapped()
            self.client.pointer()
            self.client.keyboard()
            self.server.switch(0, 0, other)
            self.server.switch(0, 0, window)
            self.server.tick(0)
            self.server.motion(0, 10, 20)
            if words[0] == "configure":
                self.server.switch(0, 0, other)
            self.client.told()
            self.fill(1024)
            deed(window)
            self.assertEqual([row[1] for row in self.client.told()[-2:]], words)
            self.assertEqual(self.server.windows(), [])

    def test_behind_a_tick(self):
        watch = self.client.new("watch")
        self.client.ask(TRANSFER, "transfer", "watch", watch, "x")
        self.fill(1024)
        self.server.tick(0)
        self.assertEqual([row[1] for row in self.client.told()[-2:]], ["gone", "error"])

    def test_within_a_tick(self):
        # It ends ahead of the fetches and watches.
        watch = self.client.new("watch")
        self.client.put(TRANSFER, "transfer", "watch", watch, "x")
        self.client.put(TRANSFER, "transfer", "send", "k", [1])
        surface = self.client.surface()
        self.client.put(surface, "surface", "frame", self.client.new("callback"))
        self.client.ask(surface, "surface", "commit")
        server = self.server
        server.set_policy("allow share, name from any to any;")
        other = Client(server, 1, "b").start()
        fetch, other_watch = other.new("fetch"), other.new("watch")
        other.put(TRANSFER, "transfer", "fetch", fetch, "k")
        other.ask(TRANSFER, "transfer", "watch", other_watch, "a")
        self.fill(1024)
        server.tick(5)
        self.assertEqual([row[1] for row in self.client.told()[-3:]], ["done", "removed", "error"])
        self.assertEqual(other.told(), [(other_watch, "gone")])

    def test_behind_other_outputs_and_keymaps(self):
        self.client.keyboard()
        self.client.told()
        self.fill(1024)
        self.server.set_keymap("")
        self.assertEqual([row[1] for row in self.client.told()[-2:]], ["keymap", "error"])
        self.setUp()
        self.fill(1024)
        self.server.set_outputs([OUTPUT, Output(5, 200, 0, 10, 10, 1, 0)])
        self.assertEqual([row[1] for row in self.client.told()[-2:]], ["there", "error"])

    def test_behind_an_answer(self):
        capture = self.client.new("capture")
        self.client.ask(TRANSFER, "transfer", "ask", capture, self.client.output(), 0, 0, 1, 1)
        self.client.told()
        self.fill(1024)
        self.server.allow(1, False)
        self.assertEqual([row[1] for row in self.client.told()[-2:]], ["refused", "error"])

    def test_behind_a_paste(self):
        server = server_of(policy="allow paste from any to any;")
        client = Client(server).start()
        self.server, self.client = server, client
        client.mapped()
        client.pointer()
        server.tick(0)
        server.motion(0, 10, 20)
        server.button(0, 1, True)
        client.ask(TRANSFER, "transfer", "give", client.source(("k", [])), 1, 0)
        client.told()
        self.fill(1024)
        server.paste(False)
        self.assertEqual([row[1] for row in client.told()[-3:]], ["offer", "kind", "error"])


if __name__ == "__main__":
    unittest.main()
