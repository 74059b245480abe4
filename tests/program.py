"""A program for tests: its painting and its desk, its windows in a stack, and what it is told."""

import copy

from sillwatch.errors import Fault
from sillwatch.objects.replies import Reply
from sillwatch.surfaces.painting import Painting
from sillwatch.windows.desk import Desk
from sillwatch.windows.stack import Stack
from sillwatch.windows.view import View
from tests.helpers import ask, rows_of

PAINTERS = {"memory", "buffer", "compositor", "region", "surface", "joiner", "sub"}
MEMORY, COMPOSITOR, JOINER, WINDOWS = 3, 4, 5, 6


def view_values(view):
    rows = {number: vars(placed) for number, placed in view.own_windows.items()}
    return copy.deepcopy((view.areas, rows, view.focus, view.grant, view.kept))


class Program:
    """Serves requests as a server does: the commits that come true are followed, and the wishes carried out."""

    def __init__(self, areas=((0, 0, 400, 300),), slot=0, stack=None):
        self.areas = list(areas)
        self.slot = slot
        self.stack = Stack() if stack is None else stack
        self.painting = Painting()
        self.desk = Desk()
        self.focus = None
        self.grant = None
        self.kept = []
        self.kinds = {}
        self.wishes = []
        self.next = 100

    def view(self):
        return View(list(self.areas), self.stack.own(self.slot), self.focus, self.grant, list(self.kept))

    def ask(self, number, interface, name, *arguments):
        """Serve a request; return what is told, or the fields of the fault."""
        reply = Reply()
        view = self.view()
        before = view_values(view)
        request = ask(number, interface, name, *arguments)
        try:
            if interface in PAINTERS:
                self.painting.serve(request, reply)
                if reply.applied:
                    self.desk.committed(list(reply.applied), self.painting, view, reply)
            else:
                self.desk.serve(request, self.painting, view, reply)
        except Fault as fault:
            self.wishes = []
            return fault.number, fault.code, fault.words
        assert view_values(view) == before and request.arguments == list(arguments)
        self.perform(reply)
        return self.events(reply)

    def perform(self, reply):
        self.wishes = list(reply.wishes)
        self.ended = list(reply.ended)
        self.applied = list(reply.applied)
        for wish in reply.wishes:
            if wish == ("spend",):
                self.grant = None
            else:
                self.stack.perform(self.slot, wish)

    def events(self, reply):
        """Return what is told as tuples (object, event, values ..)."""
        return rows_of(reply, self.kinds)

    def tell_frames(self):
        reply = Reply()
        self.desk.tell_frames(self.view(), reply)
        assert reply.wishes == [] and reply.ended == []
        return self.events(reply)

    def new(self, kind):
        self.next += 1
        self.kinds[self.next] = kind
        return self.next

    # What programs do often.

    def surface(self):
        number = self.new("surface")
        assert self.ask(COMPOSITOR, "compositor", "surface", number) == []
        return number

    def buffer(self, width, height, colour=0):
        number = self.new("buffer")
        assert self.ask(MEMORY, "memory", "buffer", number, width, height) == []
        assert self.ask(number, "buffer", "fill", 0, 0, width, height, colour) == []
        return number

    def region(self, *rectangles):
        number = self.new("region")
        assert self.ask(COMPOSITOR, "compositor", "region", number) == []
        for rectangle in rectangles:
            assert self.ask(number, "region", "add", *rectangle) == []
        return number

    def attach(self, surface, width, height, colour=0xFF000000):
        """Attach a picture of a size, of a buffer that is gone behind the next commit."""
        buffer = self.buffer(width, height, colour)
        assert self.ask(surface, "surface", "attach", buffer) == []
        return buffer

    def commit(self, surface):
        return self.ask(surface, "surface", "commit")

    def show(self, surface, width, height, colour=0xFF000000):
        """Attach, commit, and destroy the buffer; return what is told besides the release."""
        buffer = self.attach(surface, width, height, colour)
        told = self.commit(surface)
        wishes, applied = self.wishes, self.applied
        if isinstance(told, list):
            assert told[0] == (buffer, "release")
            told = told[1:]
        assert self.ask(buffer, "buffer", "destroy") == []
        self.wishes, self.applied = wishes, applied
        return told

    def hide(self, surface):
        """Commit no picture."""
        self.ask(surface, "surface", "attach", 0)
        return self.commit(surface)

    def join(self, surface, parent):
        sub = self.new("sub")
        told = self.ask(JOINER, "joiner", "join", sub, surface, parent)
        return sub if told == [] else told

    def inner(self, parent, width=None, height=None):
        """Return the sub and the surface of a new surface in a parent, which commits a picture if it has a size."""
        surface = self.surface()
        sub = self.join(surface, parent)
        if width is not None:
            self.show(surface, width, height)
        return sub, surface

    def window(self, surface=None):
        """Return the window and the surface of a new window."""
        surface = self.surface() if surface is None else surface
        number = self.new("window")
        told = self.ask(WINDOWS, "windows", "window", number, surface)
        return (number, surface) if told == [] else told

    def configure(self, window, surface):
        """Let a window be configured and acknowledge it."""
        told = self.hide(surface)
        assert told[-1][:2] == (window, "configure")
        assert self.ask(window, "window", "ack", told[-1][2]) == []

    def mapped(self, width=40, height=30, colour=0xFF000000):
        """Return the window and the surface of a new window that is mapped."""
        window, surface = self.window()
        self.configure(window, surface)
        assert self.show(surface, width, height, colour) == []
        return window, surface

    def popup(self, parent, positioner, serial=0, surface=None):
        """Return the popup and the surface of a new popup, or the fault."""
        surface = self.surface() if surface is None else surface
        number = self.new("popup")
        told = self.ask(WINDOWS, "windows", "popup", number, surface, parent, *positioner, serial)
        return (number, surface) if told == [] else told

    def granted_popup(self, parent, positioner):
        self.grant = 77
        made = self.popup(parent, positioner, 77)
        assert self.grant is None
        return made

    def frame(self, window):
        return self.stack.find(self.slot, window).frame

    def popup_rows(self, window):
        return self.desk.popup_rows(window, self.view())


def at(x, y, width, height, adjust=0):
    """Return a positioner that puts a popup of a size at a place."""
    return (x, y, 0, 0, -1, -1, 1, 1, width, height, 0, 0, adjust)
