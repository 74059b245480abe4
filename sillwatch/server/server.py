"""The server, as its operator calls it."""

from sillwatch.devices.keymaps import read_keymap
from sillwatch.errors import BadTime, NothingAsked, SlotIsTaken
from sillwatch.giving.exchange import newest
from sillwatch.objects.replies import Reply
from sillwatch.outputs import check_outputs, copied_outputs, output_numbered
from sillwatch.policies.flows import lets
from sillwatch.policies.reading import read_policy
from sillwatch.screens.screens import captured
from sillwatch.server.deeds import carry_out, tell_frames
from sillwatch.server.drags import tell_ended_drags, tell_moved_drag
from sillwatch.server.endings import end_program, end_slow_programs
from sillwatch.server.handling import make_round
from sillwatch.server.mailbox import Mailbox
from sillwatch.server.program import Program
from sillwatch.server.ticks import make_tick
from sillwatch.server.world import World

SELECTION_WAY = 0
PRIMARY_WAY = 1
# Any content does for a kind of flow whose rules name none.
_CONTENT = "x"


class Server:
    """A server: programs in slots, and an environment of outputs, time, a policy, a keymap and users."""

    def __init__(self, outputs, policy, keymap, guard):
        check_outputs(outputs)
        policy_read = read_policy(policy)
        self._world = World(outputs, policy_read, read_keymap(keymap), guard)

    def admit(self, slot, label):
        """Let a program come to a slot."""
        world = self._world
        place = world.slots[slot]
        if place.program is not None:
            raise SlotIsTaken("there is a program in the slot")
        world.causes.begin("")
        if place.label != label:
            place.kept = []
            world.exchange.relabelled(slot)
        place.label = label
        place.program = Program()
        place.mailbox = Mailbox()

    def send(self, slot, octets):
        """Take octets that a program sends, and return how many were taken."""
        self._world.causes.begin("")
        place = self._world.slots[slot]
        return 0 if place.program is None else place.mailbox.put(octets)

    def receive(self, slot, most):
        """Return the octets of unread messages, and whether there is no program and nothing unread behind them."""
        self._world.causes.begin("")
        place = self._world.slots[slot]
        octets = place.mailbox.read(most)
        return octets, place.program is None and place.mailbox.unread() == 0

    def leave(self, slot):
        """Let the program of a slot leave, if there is one."""
        self._end(slot)

    def end(self, slot):
        """End the program of a slot, and tell whether there was one."""
        return self._end(slot)

    def restart(self):
        """End all programs."""
        self._world.causes.begin("")
        for slot, _ in self._world.programs():
            end_program(self._world, slot)

    def rounds(self, count):
        """Make so many rounds."""
        for _ in range(count):
            self._world.causes.begin("round")
            make_round(self._world)

    def tick(self, time):
        """Make a tick."""
        self._go_to(time, "tick")
        world = self._world
        world.ticked = time
        make_tick(world)

    def motion(self, time, x, y):
        """Let a user move the pointer."""
        self._go_to(time, "action")
        world = self._world
        self._act(world.routing.motion(world.sight(), time, x, y))
        tell_moved_drag(world)
        end_slow_programs(world)

    def button(self, time, number, down):
        """Let a user press or release a button."""
        self._go_to(time, "action")
        world = self._world
        was_pressed = bool(world.routing.buttons)
        self._act(world.routing.button(world.sight(), time, number, down))
        if was_pressed and not world.routing.buttons:
            tell_ended_drags(world)
        end_slow_programs(world)

    def axis(self, time, dx, dy):
        """Let a user turn a wheel."""
        self._go_to(time, "action")
        self._act(self._world.routing.axis(self._world.sight(), time, dx, dy))
        end_slow_programs(self._world)

    def key(self, time, code, down):
        """Let a user press or release a key."""
        self._go_to(time, "action")
        self._act(self._world.routing.key(self._world.sight(), time, code, down))
        end_slow_programs(self._world)

    def switch(self, time, slot, window):
        """Let a user switch to a window."""
        self._go_to(time, "action")
        self._act(self._world.routing.switch(self._world.sight(), slot, window))
        end_slow_programs(self._world)

    def paste(self, primary):
        """Let a user paste from one of the two selections for the program with the focus."""
        world = self._world
        world.causes.begin("take")
        if world.routing.focus is not None:
            self._offer(world.routing.focus[0], primary)
        tell_frames(world)
        end_slow_programs(world)

    def allow(self, number, allowed):
        """Let a user allow or refuse a capture."""
        found = [asked for asked in self._world.exchange.asked if asked.number == number]
        if not found:
            raise NothingAsked("no capture with this number is asked for")
        world = self._world
        world.causes.begin("answer")
        self._answer(found[0], allowed)
        tell_frames(world)
        end_slow_programs(world)

    def set_outputs(self, outputs):
        """Set the outputs."""
        check_outputs(outputs)
        world = self._world
        world.causes.begin("outputs")
        before = world.outputs
        world.outputs = copied_outputs(outputs)
        world.routing.outputs_changed(world.areas())
        for slot, program in world.programs():
            reply = Reply()
            program.registries.changed(before, world.outputs, reply)
            world.tell(slot, reply.told, None)
        end_slow_programs(world)

    def set_policy(self, text):
        """Set the policy."""
        policy = read_policy(text)
        world = self._world
        world.causes.begin("")
        world.policy = policy

    def set_keymap(self, text):
        """Set the keymap."""
        keymap = read_keymap(text)
        world = self._world
        world.causes.begin("keymap")
        world.keymap = keymap
        for slot, program in world.programs():
            reply = Reply()
            program.hearing.keymap_set(keymap, reply)
            world.tell(slot, reply.told, None)
        end_slow_programs(world)

    def set_guard(self, guard):
        """Set the guard time."""
        world = self._world
        world.causes.begin("")
        world.guard = guard

    def captures(self):
        """Return rows (number, slot, label, output, x, y, width, height) of the captures that are asked for."""
        labels = self._world.labels()
        return [
            (asked.number, asked.slot, labels[asked.slot], asked.output, asked.x, asked.y, asked.width, asked.height)
            for asked in self._world.exchange.asked
        ]

    def selection(self, primary):
        """Return rows (label, kinds) of what was given, the newest first, with pairs (kind, size)."""
        labels = self._world.labels()
        given = self._world.exchange.primary if primary else self._world.exchange.gifts
        return [(labels[slot], [(kind, len(octets)) for kind, octets in goods]) for slot, goods in given]

    def windows(self):
        """Return rows of all mapped windows, from the bottom.

        A row is (slot, label, window, title, name, frame, maximized, hidden, focused).
        """
        world = self._world
        rows = []
        for placed in world.stack.placed_rows():
            place = world.slots[placed.slot]
            for window, _, title, name in place.program.desk.window_rows():
                if window == placed.window:
                    focused = world.routing.focus == (placed.slot, window)
                    rows.append((
                        placed.slot, place.label, window, title, name,
                        placed.frame, placed.maximized, placed.hidden, focused,
                    ))
        return rows

    def slots(self):
        """Return for each slot a tuple (taken, label, queued, unread)."""
        return [
            (place.program is not None, place.label, place.mailbox.queued(), place.mailbox.unread())
            for place in self._world.slots
        ]

    def kept(self, slot):
        """Return the rows (name, frame, before) that are kept in a slot, the first one first."""
        return list(self._world.slots[slot].kept)

    def picture(self, number, x, y, width, height):
        """Return the colours of a rectangle of what a screen was given last."""
        return self._world.screens.picture(number, x, y, width, height)

    def painted(self, number):
        """Return the rectangles of the units of an output that were painted last."""
        return self._world.screens.painted(number)

    def why(self, slot, number):
        """Return the cause (step, word, request) of a message, or None if there is no such message."""
        return self._world.causes.cause(slot, number)

    def _go_to(self, time, word):
        """Go to a time, and begin a step there."""
        world = self._world
        if time < world.time:
            raise BadTime("the time is less than the one before")
        world.time = time
        world.causes.begin(word)

    def _act(self, deeds):
        """Carry out what comes of a user's action, and tell all programs of their frames."""
        carry_out(self._world, deeds, None)
        tell_frames(self._world)

    def _end(self, slot):
        self._world.causes.begin("")
        is_there = self._world.slots[slot].program is not None
        if is_there:
            end_program(self._world, slot)
        return is_there

    def _offer(self, slot, primary):
        """Offer a program the newest goods of a selection of which any piece comes to it."""
        world = self._world
        given = world.exchange.primary if primary else world.exchange.gifts
        goods = newest(world.policy, "paste", given, world.labels(), slot)
        program = world.slots[slot].program
        reply = Reply()
        program.holdings.offered(program.objects, PRIMARY_WAY if primary else SELECTION_WAY, goods, reply)
        world.tell(slot, reply.told, None)

    def _answer(self, asked, allowed):
        """Tell a program the answer to a capture."""
        world = self._world
        output = output_numbered(world.outputs, asked.output)
        picture = None
        if allowed and output is not None:
            layers = self._captured_layers(asked.slot)
            octets = captured(output, layers, asked.x, asked.y, asked.width, asked.height)
            picture = (asked.width, asked.height, octets)
        world.exchange.withdraw(asked.slot, asked.capture)
        reply = Reply()
        world.slots[asked.slot].program.holdings.answered(asked.capture, picture, reply)
        world.tell(asked.slot, reply.told, None)

    def _captured_layers(self, slot):
        """Return the layers that count for a capture of a slot."""
        world = self._world
        labels = world.labels()
        slots = [
            other for other, label in enumerate(labels)
            if other == slot or lets(world.policy, "capture", _CONTENT, label, labels[slot])
        ]
        return [layer for layer in world.layers(slots) if layer.what == "surface"]
