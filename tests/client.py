"""A program for tests that speaks to a server in octets, and does often what programs do often."""

from sillwatch.objects.tables import event_row, request_opcode, request_row
from sillwatch.octets.fields import read_arguments
from sillwatch.octets.messages import cut_messages, encode_message
from sillwatch.outputs import Output
from sillwatch.server.server import Server

REGISTRY, MEMORY, COMPOSITOR, JOINER, WINDOWS, SEAT, TRANSFER = 2, 3, 4, 5, 6, 7, 8
GLOBALS = {"memory": 1, "compositor": 2, "joiner": 3, "windows": 4, "seat": 5, "transfer": 6}
ALL_FLOWS = "allow paste, drop, capture, share, name from any to any;"
OUTPUT = Output(0, 0, 0, 200, 150, 1, 0)
SLOW = [(1, "error", 1, 7, "too slow")]


def server_of(outputs=(OUTPUT,), policy="", keymap="", guard=0):
    return Server(list(outputs), policy, keymap, guard)


def request_octets(number, interface, name, *arguments):
    opcode = request_opcode(interface, name)
    kinds = [part.partition(" ")[0] for part in request_row(interface, opcode)[1]]
    return encode_message(number, opcode, list(zip(kinds, arguments, strict=True)))


class Client:
    """A program in a slot of a server. Its kinds are the interfaces of its objects, by their numbers."""

    def __init__(self, server, slot=0, label="a", numbers=100):
        self.server = server
        self.slot = slot
        self.kinds = {1: "display"}
        self.next = numbers
        server.admit(slot, label)

    # Octets.

    def put(self, number, interface, name, *arguments):
        """Send a message without a round."""
        octets = request_octets(number, interface, name, *arguments)
        taken = self.server.send(self.slot, octets)
        assert taken == len(octets), (taken, len(octets))

    def ask(self, number, interface, name, *arguments):
        """Send a message, make a round, and return what is told."""
        self.put(number, interface, name, *arguments)
        self.server.rounds(1)
        return self.told()

    def told(self):
        """Receive everything, and return it as tuples (object, event, values ..)."""
        octets, _ = self.server.receive(self.slot, 10 ** 9)
        messages, rest, fault = cut_messages(octets)
        assert rest == [] and not fault
        return [self.event(*message) for message in messages]

    def event(self, number, opcode, body):
        name, kinds = event_row(self.kinds[number], opcode)
        values = read_arguments(list(kinds), body)
        if name == "offer":
            self.kinds[values[0]] = "offer"
        if name == "removed":
            self.kinds.pop(values[0], None)
        return (number, name, *values)

    def new(self, interface):
        self.next += 1
        self.kinds[self.next] = interface
        return self.next

    def is_there(self):
        return self.server.slots()[self.slot][0]

    # Globals.

    def start(self, *names):
        """Open a registry, bind globals, and forget what is told."""
        self.kinds[REGISTRY] = "registry"
        self.put(1, "display", "registry", REGISTRY)
        for number, name in enumerate(("memory", "compositor", "joiner", "windows", "seat", "transfer"), MEMORY):
            if not names or name in names:
                self.kinds[number] = name
                self.put(REGISTRY, "registry", "bind", GLOBALS[name], (name, number))
        self.server.rounds(1)
        self.told()
        return self

    def output(self, number=0):
        made = self.new("output")
        self.ask(REGISTRY, "registry", "bind", 16 + number, ("output", made))
        return made

    # Surfaces and windows.

    def surface(self):
        number = self.new("surface")
        self.ask(COMPOSITOR, "compositor", "surface", number)
        assert self.is_there()
        return number

    def paint(self, surface, width, height, colour=0xFF000000):
        """Let a surface show a picture of one colour; return what is told besides what belongs to the buffer."""
        buffer = self.new("buffer")
        self.put(MEMORY, "memory", "buffer", buffer, width, height)
        self.put(buffer, "buffer", "fill", 0, 0, width, height, colour)
        self.put(surface, "surface", "attach", buffer)
        self.put(surface, "surface", "commit")
        self.put(buffer, "buffer", "destroy")
        self.server.rounds(1)
        return [row for row in self.told() if row not in [(buffer, "release"), (1, "removed", buffer)]]

    def hide(self, surface):
        self.put(surface, "surface", "attach", 0)
        return self.ask(surface, "surface", "commit")

    def window(self, name=""):
        """Return the window and the surface of a new window that is configured."""
        surface = self.surface()
        window = self.new("window")
        self.put(WINDOWS, "windows", "window", window, surface)
        if name:
            self.put(window, "window", "name", name)
        self.configure(window, surface)
        return window, surface

    def configure(self, window, surface):
        told = self.hide(surface)
        assert told[-1][:2] == (window, "configure"), told
        self.ask(window, "window", "ack", told[-1][2])

    def mapped(self, width=40, height=30, colour=0xFF000000, name=""):
        """Return the window and the surface of a new window that is mapped."""
        window, surface = self.window(name)
        self.paint(surface, width, height, colour)
        return window, surface

    def popup(self, parent, positioner, serial=0, width=None, height=None):
        """Return the popup and the surface of a new popup that is shown."""
        surface = self.surface()
        number = self.new("popup")
        self.put(WINDOWS, "windows", "popup", number, surface, parent, *positioner, serial)
        self.paint(surface, width or positioner[8], height or positioner[9])
        return number, surface

    # Devices and giving.

    def pointer(self):
        number = self.new("pointer")
        self.ask(SEAT, "seat", "pointer", number)
        return number

    def keyboard(self):
        number = self.new("keyboard")
        self.ask(SEAT, "seat", "keyboard", number)
        return number

    def source(self, *pieces):
        number = self.new("source")
        self.put(TRANSFER, "transfer", "source", number)
        for kind, octets in pieces:
            self.put(number, "source", "write", kind, octets)
        self.server.rounds(1)
        assert self.is_there()
        return number

    # The server's view.

    def frame(self, window):
        return [row[5] for row in self.server.windows() if row[:1] == (self.slot,) and row[2] == window][0]
