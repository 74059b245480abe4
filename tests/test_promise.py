"""Point 111, the main promise: what other programs are and do is not told.

In each test there are two servers. One slot of both has the same program, with which users do the same things. The
other slots have different programs, under different policies and guard times that give the program nothing.
"""

import random
import unittest

from sillwatch.octets.messages import cut_messages
from sillwatch.outputs import Output
from tests.client import (
    COMPOSITOR, GLOBALS, JOINER, MEMORY, SEAT, TRANSFER, WINDOWS, Client, request_octets, server_of,
)
from tests.program import at

OUTPUTS = [Output(0, 0, 0, 160, 120, 1, 0), Output(1, 160, 0, 80, 120, 2, 3)]
KEYMAP = "layout us{10:'a'A;20:mod shift;30:lock caps;40:lock layout;}layout de{10:'z;}"
POLICIES = [
    "", 'program a = "a";allow paste, drop, capture, share, name from any to any but a;',
    'program a = "a";allow paste, drop, capture, share, name from any to any;'
    "deny paste, drop, capture, share, name from any to a;",
    "deny paste from any to any;",
]
FREE = (239, 119)


class Other:
    """A program in another slot, which does this and that. What it sends is handled with the next rounds."""

    def __init__(self, server, slot, source):
        self.server = server
        self.slot = slot
        self.source = source
        self.next = 500
        self.serial = 0
        server.admit(slot, source.choice(["b", "c", "a long label"]))
        self.send((1, "display", "registry", 2))
        for number, name in enumerate(GLOBALS, MEMORY):
            self.send((2, "registry", "bind", number - 2, (name, number)))
        self.surface, self.window = self.new(), self.new()
        self.send((COMPOSITOR, "compositor", "surface", self.surface))
        self.send((WINDOWS, "windows", "window", self.window, self.surface))
        self.send((self.surface, "surface", "commit"), (self.window, "window", "ack", 1))
        self.show(source.randrange(16, 60), source.randrange(16, 50))
        for interface in ("pointer", "keyboard"):
            for _ in range(source.randrange(3)):
                self.send((SEAT, "seat", interface, self.new()))

    def new(self):
        self.next += 1
        return self.next

    def send(self, *rows):
        for row in rows:
            self.server.send(self.slot, request_octets(*row))

    def show(self, width, height):
        buffer = self.new()
        self.send(
            (MEMORY, "memory", "buffer", buffer, width, height),
            (buffer, "buffer", "fill", 0, 0, width, height, 0xFF000000 + buffer),
            (self.surface, "surface", "attach", buffer),
            (self.surface, "surface", "commit"), (buffer, "buffer", "destroy"),
        )

    def is_there(self):
        return self.server.slots()[self.slot][0]

    def receive(self):
        """Receive everything, and remember the serial of the last press."""
        for _, opcode, body in cut_messages(self.server.receive(self.slot, 10 ** 6)[0])[0]:
            if opcode == 3 and len(body) == 16 and body[8] == 1:
                self.serial = body[0] + 256 * body[1]

    def give(self):
        source = self.new()
        self.send(
            (TRANSFER, "transfer", "source", source), (source, "source", "write", "text/plain", [self.slot]),
            (TRANSFER, "transfer", "give", source, self.serial, self.source.randrange(2)),
            (source, "source", "destroy"),
        )

    def send_something(self):
        """Send some octets, some of them faults."""
        source = self.source
        size = source.randrange(16, 60)
        deed = source.randrange(15)
        self.receive()
        if deed < 2:
            self.show(size, size)
        elif deed >= 12:
            self.give()
        elif deed == 2:
            self.send(*[(1, "display", "registry", self.new()) for _ in range(30)])
        else:
            self.send([
                (self.window, "window", "smaller", size, size), (self.window, "window", "title", "t" * size),
                (self.window, "window", "raise", source.randrange(9)), (TRANSFER, "transfer", "send", "k", [size]),
                (TRANSFER, "transfer", "unsend", "k"), (TRANSFER, "transfer", "watch", self.new(), "a"),
                (TRANSFER, "transfer", "fetch", self.new(), "k"), (1, "display", "sync", self.new()),
                (self.surface, "surface", "destroy"),
            ][deed - 3])


class Pair:
    """Two servers with the same program in one slot."""

    def __init__(self, test, seed, slot=0):
        self.test = test
        self.slot = slot
        self.source = random.Random(seed)
        self.servers = []
        self.others = [[], []]
        self.time = 0
        for policy, guard in zip(self.source.sample(POLICIES, 2), self.source.sample([0, 5, 40, 100], 2)):
            self.servers.append(server_of(OUTPUTS, policy, KEYMAP, guard))
        # The program itself speaks to the first server, and what it sends is sent to the second one too.
        self.client = Client(self.servers[0], slot, "a")
        self.servers[1].admit(slot, "a")
        self.count = 0
        self.told = []
        self.causes = [0, 0]

    def both(self, name, *arguments):
        """Call the same of both, and compare what the program is told and why."""
        results = [getattr(server, name)(*arguments) for server in self.servers]
        self.compare()
        return results

    def compare(self):
        octets = [server.receive(self.slot, 10 ** 6) for server in self.servers]
        self.test.assertEqual(self.messages(octets[0][0]), self.messages(octets[1][0]))
        self.test.assertEqual(octets[0], octets[1])
        self.test.assertEqual(self.servers[0].slots()[self.slot][2:], self.servers[1].slots()[self.slot][2:])
        self.test.assertEqual(self.servers[0].kept(self.slot), self.servers[1].kept(self.slot))
        self.test.assertEqual(*[
            [row[2:] for row in server.windows() if row[0] == self.slot] for server in self.servers
        ])
        self.told += [self.client.event(*message) for message in self.messages(octets[0][0])]
        self.compare_causes()

    def compare_causes(self):
        """Compare the words and the requests of all messages, from the last one on."""
        rows = [self.causes_of(server) for server in self.servers]
        count = min(len(rows[0]), len(rows[1]))
        self.test.assertEqual(rows[0][len(rows[0]) - count:], rows[1][len(rows[1]) - count:])

    def causes_of(self, server):
        rows = []
        while (cause := server.why(self.slot, len(rows))) is not None:
            rows.append(cause[1:])
        return rows[-20:]

    def messages(self, octets):
        return cut_messages(octets)[0]

    def put(self, *row):
        octets = request_octets(*row)
        for server in self.servers:
            taken = server.send(self.slot, octets)
            self.test.assertIn(taken, (0, len(octets)))

    def round(self):
        self.both("rounds", 1)

    def ask(self, *row):
        self.put(*row)
        self.round()

    def rows(self, name):
        """Return and forget what was told with an event."""
        found = [row for row in self.told if row[1] == name]
        self.told = [row for row in self.told if row[1] != name]
        return found

    def start(self):
        client = self.client
        client.kinds[2] = "registry"
        self.put(1, "display", "registry", 2)
        for number, name in enumerate(GLOBALS, MEMORY):
            client.kinds[number] = name
            self.put(2, "registry", "bind", number - 2, (name, number))
        self.round()

    # What the program does.

    def mapped(self, width, height, name=""):
        surface, window, buffer = [self.client.new(kind) for kind in ("surface", "window", "buffer")]
        self.put(COMPOSITOR, "compositor", "surface", surface)
        self.put(WINDOWS, "windows", "window", window, surface)
        self.put(window, "window", "name", name)
        self.ask(surface, "surface", "commit")
        self.put(window, "window", "ack", self.rows("configure")[-1][2])
        self.show(surface, buffer, width, height)
        return window, surface

    def show(self, surface, buffer, width, height):
        self.put(MEMORY, "memory", "buffer", buffer, width, height)
        self.put(buffer, "buffer", "fill", 0, 0, width, height, 0xFFFF0000)
        self.put(surface, "surface", "attach", buffer)
        self.put(surface, "surface", "commit")
        self.ask(buffer, "buffer", "destroy")

    def popup(self, window, serial):
        surface, popup = self.client.new("surface"), self.client.new("popup")
        self.put(COMPOSITOR, "compositor", "surface", surface)
        self.put(WINDOWS, "windows", "popup", popup, surface, window, *at(3, 4, 9, 9), serial)
        self.show(surface, self.client.new("buffer"), 9, 9)

    # What users do with the program.

    def go(self, way=1):
        """Let time pass."""
        self.time += way

    def settle(self):
        """Paint long enough for each of the guard times."""
        self.both("tick", self.time)
        self.go(100)
        self.both("tick", self.time)

    def switch(self, window):
        self.both("switch", self.time, self.slot, window)

    def frame(self, window):
        rows = [row[5] for row in self.servers[0].windows() if row[0] == self.slot and row[2] == window]
        return rows[0] if rows else None

    def press_in(self, window, x, y):
        """Bring a window to the top and press at a place of its frame; return the serial, if it was told any."""
        self.switch(window)
        self.settle()
        frame = self.frame(window)
        self.both("motion", self.time, frame[0] + x, frame[1] + y)
        self.both("button", self.time, 1, True)
        rows = self.rows("button")
        return rows[-1][2] if rows else 0

    def release(self):
        self.both("button", self.time, 1, False)

    def turn_away(self):
        """Let the users turn to other programs, in each server to one that is there."""
        if not all([self.windows_of_others(server) for server in self.servers]):
            self.admit_others()
        for server in self.servers:
            row = self.source.choice(self.windows_of_others(server))
            server.switch(self.time, row[0], row[2])
        self.compare()
        self.both("motion", self.time, *FREE)

    def windows_of_others(self, server):
        return [row for row in server.windows() if row[0] != self.slot]

    # What others do.

    def admit_others(self):
        """Let other programs come, different ones to each server, in place of those that are there."""
        for server, others in zip(self.servers, self.others):
            free = [slot for slot in range(4) if slot != self.slot]
            for slot in free:
                server.end(slot)
            others.clear()
            for slot in self.source.sample(free, self.source.randrange(1, 4)):
                others.append(Other(server, slot, self.source))
        self.both("rounds", 3)

    def let_others_do(self, count):
        """Let the others, and the users with them, do what changes nothing of the program."""
        for server, others in zip(self.servers, self.others):
            for _ in range(self.source.randrange(count)):
                self.let_one_do(server, others)
        self.compare()

    def let_one_do(self, server, others):
        source = self.source
        deed = source.randrange(8)
        if deed < 4:
            source.choice(others).send_something()
        elif deed == 4:
            code = source.choice([10, 20, 30, 40])
            server.key(self.time, code, True)
            server.key(self.time, code, False)
            for other in others:
                other.receive()
                other.give()
        elif deed == 5:
            server.set_policy(source.choice(POLICIES))
        elif deed == 6:
            server.paste(source.random() < 0.5)
        else:
            windows = self.windows_of_others(server)
            if windows:
                row = source.choice(windows)
                server.switch(self.time, row[0], row[2])


class Promise(unittest.TestCase):
    def pair(self, seed, slot=0):
        pair = Pair(self, seed, slot)
        pair.start()
        pair.admit_others()
        return pair

    def test_windows_of_others(self):
        for seed in range(4):
            pair = self.pair(seed)
            first, _ = pair.mapped(40, 30, "n")
            pair.let_others_do(6)
            second, _ = pair.mapped(20, 20)
            self.assertEqual((pair.frame(first), pair.frame(second)), ((0, 0, 44, 42), (24, 24, 24, 32)))
            pair.ask(first, "window", "raise", 1)
            pair.ask(second, "window", "smaller", 17, 17)
            pair.both("tick", 5)
            pair.round()

    def test_focus_and_grants(self):
        for seed in range(4):
            pair = self.pair(seed)
            window, surface = pair.mapped(60, 40)
            pair.put(SEAT, "seat", "pointer", pair.client.new("pointer"))
            pair.ask(SEAT, "seat", "keyboard", pair.client.new("keyboard"))
            serial = pair.press_in(window, 20, 30)
            self.assertEqual(serial, 1)
            pair.popup(window, serial)
            self.assertEqual(len(pair.rows("placed")), 1)
            pair.release()
            pair.both("key", pair.time, 10, True)
            pair.both("key", pair.time, 10, False)
            pair.turn_away()
            self.assertEqual(len([row for row in pair.rows("done") if pair.client.kinds[row[0]] == "popup"]), 1)
            pair.let_others_do(9)
            pair.switch(window)
            pair.both("key", pair.time, 10, True)
            self.assertEqual([row[2:4] for row in pair.rows("symbol")], [("a", "a")] * 2)

    def test_faults(self):
        for seed in range(4):
            pair = self.pair(seed)
            pair.mapped(60, 40, "n")
            pair.let_others_do(9)
            pair.ask(MEMORY, "memory", "buffer", pair.client.new("buffer"), 0, 0)
            self.assertEqual(len(pair.rows("error")), 1)
            pair.let_others_do(9)
            pair.both("admit", pair.slot, "a")
            pair.client.kinds = {1: "display"}
            pair.start()
            window, _ = pair.mapped(30, 30, "n")
            self.assertEqual(pair.frame(window), (0, 0, 64, 52))

    def test_what_ticks_tell(self):
        for seed in range(4):
            pair = self.pair(seed)
            pair.put(TRANSFER, "transfer", "fetch", pair.client.new("fetch"), "k")
            for label in ("b", "c", "a"):
                pair.put(TRANSFER, "transfer", "watch", pair.client.new("watch"), label)
            pair.round()
            for _ in range(4):
                pair.let_others_do(6)
                pair.round()
                pair.both("tick", pair.time)
            self.assertEqual([len(pair.rows(name)) for name in ("there", "gone", "changed")], [8, 3, 0])

    def test_many_steps(self):
        for seed in range(12):
            with self.subTest(seed=seed):
                self.run_steps(seed, 40)

    def run_steps(self, seed, count):
        pair = self.pair(seed, seed % 4)
        windows = [pair.mapped(40, 30, "n")]
        pair.put(SEAT, "seat", "pointer", pair.client.new("pointer"))
        pair.ask(SEAT, "seat", "keyboard", pair.client.new("keyboard"))
        for _ in range(count):
            if not pair.client.is_there():
                pair.both("admit", pair.slot, "a")
                pair.client.kinds = {1: "display"}
                pair.start()
                windows = [pair.mapped(40, 30, "n")]
                pair.put(SEAT, "seat", "pointer", pair.client.new("pointer"))
                pair.ask(SEAT, "seat", "keyboard", pair.client.new("keyboard"))
            self.make_step(pair, windows)
            self.assertEqual(pair.client.is_there(), pair.servers[1].slots()[pair.slot][0])

    def make_step(self, pair, windows):
        source = pair.source
        window, surface = source.choice(windows)
        deed = source.randrange(16)
        if deed == 0 and len(windows) < 4:
            windows.append(pair.mapped(source.randrange(16, 40), 30, source.choice(["", "n", "m"])))
        elif deed == 1:
            serial = pair.press_in(window, 20, 25)
            if source.random() < 0.6:
                pair.popup(window, serial)
            pair.ask(window, "window", source.choice(["raise", "maximize"]), serial)
            pair.release()
            pair.turn_away()
        elif deed == 2:
            # The frame is moved, resized, maximized, minimized or closed.
            frame = pair.frame(window)
            x, y = source.choice([(5, 5), (frame[2] - 1, frame[3] - 1), (frame[2] - 15, 5), (frame[2] - 25, 5)])
            pair.press_in(window, x, y)
            if source.random() < 0.5:
                pair.both("motion", pair.time, source.randrange(240), source.randrange(120))
            pair.release()
            pair.turn_away()
        elif deed == 3:
            pair.switch(window)
            for code in (20, 10, 30):
                pair.both("key", pair.time, code, True)
                pair.both("key", pair.time, code, False)
            pair.turn_away()
        elif deed == 4:
            self.give_or_drag(pair, window)
        elif deed == 14:
            self.capture(pair)
        elif deed == 5 and source.random() < 0.5:
            pair.put(TRANSFER, "transfer", "watch", pair.client.new("watch"), "b")
            pair.ask(TRANSFER, "transfer", "fetch", pair.client.new("fetch"), "k")
        elif deed == 6:
            pair.both("set_keymap", KEYMAP if source.random() < 0.5 else "layout x{10:'q;}")
        elif deed == 7:
            areas = source.choice([OUTPUTS, OUTPUTS[::-1], [Output(0, -20, 0, 260, 120, 1, 5)]])
            pair.both("set_outputs", areas)
            pair.both("set_outputs", OUTPUTS)
        elif deed == 9 and source.random() < 0.3:
            pair.ask(SEAT, "seat", "pointer", 1)
        elif deed == 10:
            sub, inner = pair.client.new("sub"), pair.client.new("surface")
            pair.put(COMPOSITOR, "compositor", "surface", inner)
            pair.put(JOINER, "joiner", "join", sub, inner, surface)
            pair.show(inner, pair.client.new("buffer"), 5, 5)
            pair.ask(surface, "surface", "commit")
        elif deed == 11 and len(windows) > 1:
            windows.remove((window, surface))
            pair.put(window, "window", "destroy")
            pair.ask(1, "display", "sync", pair.client.new("callback"))
        elif deed == 12:
            pair.put(surface, "surface", "frame", pair.client.new("callback"))
            pair.ask(surface, "surface", "commit")
            pair.go()
            pair.both("tick", pair.time)
        elif deed == 8:
            for _ in range(70):
                pair.put(1, "display", "sync", pair.client.new("callback"))
        elif deed == 13 and source.random() < 0.2:
            pair.both(source.choice(["leave", "end"]), pair.slot)
        pair.let_others_do(4)
        pair.round()

    def give_or_drag(self, pair, window):
        serial = pair.press_in(window, 20, 25)
        source = pair.client.new("source")
        pair.put(TRANSFER, "transfer", "source", source)
        pair.put(source, "source", "write", "text/plain", [1, 2])
        if pair.source.random() < 0.5:
            pair.ask(TRANSFER, "transfer", "give", source, serial, 0)
            pair.both("paste", False)
            pair.both("paste", True)
        else:
            pair.ask(TRANSFER, "transfer", "drag", source, serial)
            pair.both("motion", pair.time, *FREE)
        pair.release()
        pair.turn_away()

    def capture(self, pair):
        output, capture = pair.client.new("output"), pair.client.new("capture")
        pair.put(2, "registry", "bind", 16, ("output", output))
        pair.ask(TRANSFER, "transfer", "ask", capture, output, 0, 9, 60, 4)
        allowed = pair.source.random() < 0.7
        for server in pair.servers:
            for row in server.captures():
                if row[1] == pair.slot:
                    server.allow(row[0], allowed)
        pair.compare()
        if allowed and pair.rows("allowed"):
            pair.ask(capture, "capture", "read", 0, 4)
            self.assertEqual(len(pair.rows("rows")), 1)
        pair.ask(capture, "capture", "destroy")


if __name__ == "__main__":
    unittest.main()
