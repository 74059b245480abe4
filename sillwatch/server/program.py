"""A program in its slot: all that it has."""

from sillwatch.devices.hearing import Hearing
from sillwatch.giving.holdings import Holdings
from sillwatch.objects.owned import Objects
from sillwatch.objects.registries import Registries
from sillwatch.server.mailbox import Mailbox
from sillwatch.surfaces.painting import Painting
from sillwatch.windows.desk import Desk

MOST_KEPT = 32


class Program:
    """What one program has: its objects, and the parts that serve them."""

    def __init__(self):
        self.objects = Objects()
        self.registries = Registries()
        self.painting = Painting()
        self.desk = Desk()
        self.hearing = Hearing()
        self.holdings = Holdings()

    def window_names(self):
        """Return a dict: number of a window -> its name, in the order in which the windows were made."""
        return {window: name for window, _, _, name in self.desk.window_rows()}


class Slot:
    """A place for a program: its label, its program (or None), its messages, and the frames that are kept in it."""

    def __init__(self):
        self.label = ""
        self.program = None
        self.mailbox = Mailbox()
        # Rows (name, frame, before), the first one first.
        self.kept = []

    def keep(self, name, placed):
        """Keep the frame of a mapped window in front of all others, if it has a name."""
        if name == "":
            return
        before = placed.before if placed.maximized else None
        others = [row for row in self.kept if row[0] != name]
        self.kept = ([(name, placed.frame, before)] + others)[:MOST_KEPT]
