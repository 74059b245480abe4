"""The state of a server: its environment, its slots, and what all programs share."""

from sillwatch.devices.memory import Painted
from sillwatch.devices.routing import Routing
from sillwatch.devices.scenes import scene_of
from sillwatch.devices.sight import Sight
from sillwatch.giving.exchange import Exchange
from sillwatch.outputs import copied_outputs
from sillwatch.screens.layers import window_layers
from sillwatch.screens.screens import Screens
from sillwatch.server.causes import Causes
from sillwatch.server.program import Slot
from sillwatch.windows.stack import Stack
from sillwatch.windows.view import View

SLOTS = 4


class World:
    """The environment, the slots, and what all programs share."""

    def __init__(self, outputs, policy, keymap, guard):
        self.outputs = copied_outputs(outputs)
        self.policy = policy
        self.keymap = keymap
        self.guard = guard
        # The time of the last tick or action of a user, and that of the last tick.
        self.time = 0
        self.ticked = 0
        self.slots = [Slot() for _ in range(SLOTS)]
        self.stack = Stack()
        self.painted = Painted()
        self.routing = Routing(self.areas())
        self.exchange = Exchange()
        self.screens = Screens(self.outputs, [])
        self.causes = Causes(SLOTS)

    def areas(self):
        """Return the areas of the outputs."""
        return [output.area() for output in self.outputs]

    def programs(self):
        """Return rows (slot, program) of all programs, in the order of slots."""
        return [(number, slot.program) for number, slot in enumerate(self.slots) if slot.program is not None]

    def labels(self):
        """Return the labels of all slots."""
        return [slot.label for slot in self.slots]

    def view(self, slot):
        """Return what the requests of a program may look at."""
        focus = self.routing.focus
        focused = focus[1] if focus is not None and focus[0] == slot else None
        place = self.slots[slot]
        return View(self.areas(), self.stack.own(slot), focused, place.program.hearing.grant, list(place.kept))

    def focus_surface(self, slot):
        """Return the surface of the program's window that has the focus, or None."""
        focus = self.routing.focus
        if focus is None or focus[0] != slot:
            return None
        return self.slots[slot].program.desk.surface_of(focus[1])

    def paintings(self):
        """Return the paintings by slots, with None for a slot without a program."""
        return [None if slot.program is None else slot.program.painting for slot in self.slots]

    def scene(self):
        """Return the scene."""
        return scene_of(self.stack, self.paintings(), self._desks(), self._views())

    def sight(self):
        """Return what users' actions look at."""
        return Sight(
            self.areas(), self.scene(), self.stack, self.paintings(), self._desks(), self.painted, self.guard
        )

    def layers(self, slots):
        """Return the layers of the shown windows of some slots, from the lowest."""
        views = self._views()
        layers = []
        for placed in self.stack.placed_rows():
            if not placed.hidden and placed.slot in slots:
                program = self.slots[placed.slot].program
                layers.extend(window_layers(placed, program.desk, program.painting, views[placed.slot]))
        return layers

    def tell(self, slot, messages, request):
        """Tell a program messages, by a request (the list of an object and an opcode) or by none (None)."""
        for octets in messages:
            self.slots[slot].mailbox.tell(octets)
            self.causes.note(slot, request)

    def _views(self):
        """Return the views by slots, with None for a slot without a program."""
        return [None if slot.program is None else self.view(number) for number, slot in enumerate(self.slots)]

    def _desks(self):
        return [None if slot.program is None else slot.program.desk for slot in self.slots]
