"""What one program hears of the users' devices."""

from sillwatch.devices.keymaps import keymap_text
from sillwatch.devices.keys import Keys
from sillwatch.errors import Fault
from sillwatch.octets.fields import LONGEST_TEXT

MOST_DEVICES = 8
GREATEST_CURSOR = 7


class Hearing:
    """The pointers and the keyboards of one program, its serials, its grant and its keys."""

    def __init__(self):
        self.pointers = []
        self.keyboards = []
        self.serial = 0
        self.grant = None
        self._keys = Keys()
        # The pressed buttons whose press was told.
        self._buttons = []

    def serve(self, request, keymap, focus_surface, reply):
        """Serve a request of seat, pointer or keyboard."""
        if request.interface == "seat":
            self._make_device(request, keymap, focus_surface, reply)
        elif request.name == "cursor":
            if request.arguments[0] > GREATEST_CURSOR:
                raise Fault(request.number, 8, "bad cursor")
        elif request.interface == "pointer":
            self.pointers.remove(request.number)
        else:
            self.keyboards.remove(request.number)
            if not self.keyboards:
                self._keys.release_all()

    def hear(self, deed, keymap, reply):
        """Tell a deed."""
        word, *values = deed
        if word == "button":
            self._hear_button(values, reply)
        elif word == "key":
            self._hear_key(values, keymap, reply)
        elif word == "focus":
            self._keys.release_all()
            self._tell_keyboards("enter", values, reply)
        elif word == "unfocus":
            self._lose_focus(values[0], reply)
        else:
            if word in ("motion", "axis"):
                values[2] = values[2] % 2 ** 32
            for pointer in self.pointers:
                reply.tell(pointer, "pointer", word, values)

    def keymap_set(self, keymap, reply):
        """Begin anew with another keymap."""
        self._keys = Keys()
        self._tell_keyboards("keymap", [_told_text(keymap)], reply)

    def spend(self):
        """Spend the grant."""
        self.grant = None

    def _make_device(self, request, keymap, focus_surface, reply):
        if len(self.pointers) + len(self.keyboards) >= MOST_DEVICES:
            raise Fault(request.number, 7, "too many devices")
        number = request.arguments[0]
        if request.name == "pointer":
            self.pointers.append(number)
            return
        self.keyboards.append(number)
        reply.tell(number, "keyboard", "keymap", [_told_text(keymap)])
        if focus_surface is not None:
            reply.tell(number, "keyboard", "enter", [focus_surface])

    def _tell_keyboards(self, name, values, reply):
        for keyboard in self.keyboards:
            reply.tell(keyboard, "keyboard", name, values)

    def _count(self, down):
        """Count a serial, which gives a grant with a press."""
        self.serial += 1
        if down == 1:
            self.grant = self.serial

    def _hear_button(self, values, reply):
        number, down, time = values
        was_told = number in self._buttons
        if was_told:
            self._buttons.remove(number)
        # A release is told only if its own press was, so a press without a pointer takes back what was told before.
        if not self.pointers or (down == 0 and not was_told):
            return
        if down == 1:
            self._buttons.append(number)
        self._count(down)
        for pointer in self.pointers:
            reply.tell(pointer, "pointer", "button", [self.serial, number, down, time % 2 ** 32])

    def _hear_key(self, values, keymap, reply):
        code, down, time = values
        if not self.keyboards or (down == 0 and not self._keys.release(code)):
            return
        self._count(down)
        symbol = list(self._keys.press(keymap, code)) if down == 1 else []
        for keyboard in self.keyboards:
            reply.tell(keyboard, "keyboard", "key", [self.serial, code, down, time % 2 ** 32])
            if symbol:
                reply.tell(keyboard, "keyboard", "symbol", symbol)

    def _lose_focus(self, surface, reply):
        self.grant = None
        self._keys.release_all()
        if surface is not None:
            self._tell_keyboards("leave", [surface], reply)


def _told_text(keymap):
    # A keymap may be set that goes beyond the limit of a text; what can be told of it is told.
    return keymap_text(keymap)[:LONGEST_TEXT]
