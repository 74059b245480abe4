"""Points 13 and 16: the table of interfaces."""

import re
import unittest

from sillwatch.objects.tables import event_octets, event_row, interface_names, request_opcode, request_row
from sillwatch.octets.messages import encode_message

# The table of point 16: interface, requests, events.
TABLE = """
display | sync(new callback), registry(new registry) | error(uint, uint, text), removed(uint)
callback | | done(uint)
registry | bind(uint, bound) | there(uint, text), gone(uint)
memory | buffer(new buffer, uint, uint), destroy()! |
buffer | write(uint, octets), fill(int, int, uint, uint, uint), destroy()! | release()
compositor | surface(new surface), region(new region), destroy()! |
region | add(int, int, uint, uint), subtract(int, int, uint, uint), destroy()! |
surface | attach(maybe buffer), frame(new callback), hears(maybe region), commit(), turn(uint), scale(uint), destroy()! |
joiner | join(new sub, object surface, object surface), destroy()! |
sub | place(int, int), above(object surface), below(object surface), sync(), desync(), destroy()! |
output | destroy()! | size(uint, uint, uint, uint)
windows | window(new window, object surface), popup(new popup, object surface, object window/popup, int, int, int, \
int, int, int, int, int, uint, uint, int, int, uint, uint) |
window | destroy()!, title(text), name(text), least(uint, uint), largest(uint, uint), ack(uint), map_with(uint), \
smaller(uint, uint), grow(uint, uint, uint), raise(uint), maximize(uint), restore() | \
configure(uint, uint, uint, uint), close(), output(uint), left(uint)
popup | destroy()!, place(int, int, int, int, int, int, int, int, uint, uint, int, int, uint) | \
placed(int, int, uint, uint), done()
seat | pointer(new pointer), keyboard(new keyboard) |
pointer | destroy()!, cursor(uint) | enter(object, int, int), leave(object), motion(int, int, uint), \
button(uint, uint, uint, uint), axis(int, int, uint)
keyboard | destroy()! | keymap(text), enter(object), leave(object), key(uint, uint, uint, uint), \
symbol(text, text, uint)
transfer | source(new source), give(object source, uint, uint), drag(object source, uint), send(text, octets), \
unsend(text), ask(new capture, object output, int, int, uint, uint), fetch(new fetch, text), watch(new watch, text), \
destroy()! | offer(new, uint), hover(object, int, int), hover_kind(text), moved(uint, int, int), away(), ended()
source | write(text, octets), destroy()! |
offer | read(text, uint, uint), destroy()! | kind(text, uint), part(text, uint, octets)
capture | read(uint, uint), destroy()! | allowed(uint, uint), refused(), rows(uint, octets)
fetch | read(uint, uint), destroy()! | changed(uint), gone(), part(uint, octets)
watch | destroy()! | there(), gone()
"""

SAMPLES = {"uint": 5, "int": -6, "text": "seven", "octets": [8, 9], "object": 10, "new": 11}


def entries(cell):
    """Return the list of (name, arguments, mark) that a cell of the table names."""
    found = re.findall(r"(\w+)\(([^)]*)\)(!?)", cell)
    return [(name, tuple(inner.replace("/", "|").split(", ")) if inner else (), mark) for name, inner, mark in found]


def table():
    """Return the list of (interface, requests, events)."""
    rows = []
    for line in TABLE.strip().splitlines():
        interface, requests, events = line.split("|")
        asked = [(name, arguments, mark == "!") for name, arguments, mark in entries(requests)]
        rows.append((interface.strip(), asked, [(name, kinds) for name, kinds, _ in entries(events)]))
    return rows


class Tables(unittest.TestCase):
    def test_the_reading_of_the_table(self):
        rows = table()
        self.assertEqual(len(rows), 23)
        self.assertEqual(rows[4], (
            "buffer",
            [
                ("write", ("uint", "octets"), False),
                ("fill", ("int", "int", "uint", "uint", "uint"), False),
                ("destroy", (), True),
            ],
            [("release", ())],
        ))
        self.assertEqual(rows[11][1][1][1][:4], ("new popup", "object surface", "object window|popup", "int"))
        self.assertEqual(len(rows[11][1][1][1]), 17)
        self.assertEqual([row[0] for row in rows[12][1] if row[2]], ["destroy"])
        self.assertEqual(sum([len(row[1]) for row in rows]), 69)
        self.assertEqual(sum([len(row[2]) for row in rows]), 39)

    def test_names(self):
        self.assertEqual(interface_names(), [row[0] for row in table()])
        interface_names().append("other")
        self.assertEqual(len(interface_names()), 23)

    def test_requests(self):
        for interface, requests, _ in table():
            for opcode, row in enumerate(requests):
                with self.subTest(interface=interface, opcode=opcode):
                    self.assertEqual(request_row(interface, opcode), row)
                    self.assertIsInstance(request_row(interface, opcode), tuple)
                    self.assertIsInstance(request_row(interface, opcode)[1], tuple)
                    self.assertIs(request_row(interface, opcode)[2], row[2])
                    self.assertEqual(request_opcode(interface, row[0]), opcode)

    def test_beyond_the_requests(self):
        for interface, requests, _ in table():
            for opcode in [-1, -len(requests), len(requests), len(requests) + 1, 65535]:
                if not 0 <= opcode < len(requests):
                    self.assertIsNone(request_row(interface, opcode))

    def test_events(self):
        for interface, _, events in table():
            for opcode, row in enumerate(events):
                with self.subTest(interface=interface, opcode=opcode):
                    self.assertEqual(event_row(interface, opcode), row)
                    self.assertIsInstance(event_row(interface, opcode), tuple)
                    self.assertIsInstance(event_row(interface, opcode)[1], tuple)

    def test_beyond_the_events(self):
        for interface, _, events in table():
            for opcode in [-1, -len(events), len(events), len(events) + 1, 65535]:
                if not 0 <= opcode < len(events):
                    self.assertIsNone(event_row(interface, opcode))

    def test_octets_of_events(self):
        for interface, _, events in table():
            for opcode, (name, kinds) in enumerate(events):
                values = [SAMPLES[kind] for kind in kinds]
                before = list(values)
                expected = encode_message(77, opcode, list(zip(kinds, values)))
                with self.subTest(interface=interface, name=name):
                    self.assertEqual(event_octets(77, interface, name, values), expected)
                    self.assertEqual(values, before)

    def test_octets_of_single_events(self):
        self.assertEqual(event_octets(1, "display", "removed", [258]), [1, 0, 0, 0, 1, 0, 12, 0, 2, 1, 0, 0])
        self.assertEqual(event_octets(6, "buffer", "release", []), [6, 0, 0, 0, 0, 0, 8, 0])
        self.assertEqual(
            event_octets(9, "registry", "there", [1, "abc"]),
            [9, 0, 0, 0, 0, 0, 20, 0, 1, 0, 0, 0, 4, 0, 0, 0, 97, 98, 99, 0],
        )


if __name__ == "__main__":
    unittest.main()
