"""The stack of all mapped windows of all programs."""


class Placed:
    """A mapped window in the stack: its frame, and whether it is hidden or maximized, with the frame of before."""

    def __init__(self, slot, window, frame, hidden, maximized, before):
        self.slot = slot
        self.window = window
        self.frame = frame
        self.hidden = hidden
        self.maximized = maximized
        self.before = before


class Stack:
    """All mapped windows, from the bottom to the top."""

    def __init__(self):
        self._rows = []

    def placed_rows(self):
        """Return all windows, from the bottom."""
        return list(self._rows)

    def find(self, slot, window):
        """Return a window, or None if it is not there."""
        at = self._place_of(slot, window)
        return None if at is None else self._rows[at]

    def put(self, placed, top):
        """Put a window at the top or at the bottom, in place of the one that is there already."""
        self.take(placed.slot, placed.window)
        self._rows.insert(len(self._rows) if top else 0, placed)

    def take(self, slot, window):
        """Take a window out."""
        at = self._place_of(slot, window)
        if at is not None:
            del self._rows[at]

    def lift(self, slot, window):
        """Bring a window to the top."""
        placed = self.find(slot, window)
        if placed is not None:
            self.put(placed, True)

    def set_hidden(self, slot, window, hidden):
        """Hide a window, or show it again."""
        at = self._place_of(slot, window)
        if at is not None:
            placed = self._rows[at]
            self._rows[at] = Placed(slot, window, placed.frame, hidden, placed.maximized, placed.before)

    def own(self, slot):
        """Return the windows of a slot by their numbers."""
        return {placed.window: placed for placed in self._rows if placed.slot == slot}

    def perform(self, slot, deed):
        """Carry out what a program wishes of its windows."""
        if deed[0] == "map":
            _, window, frame, maximized, before, top = deed
            self.put(Placed(slot, window, frame, False, maximized, before), top)
        elif deed[0] == "unmap":
            self.take(slot, deed[1])
        elif deed[0] == "frame":
            self._reframe(slot, deed)
        elif deed[0] == "raise":
            self.lift(slot, deed[1])

    def _reframe(self, slot, deed):
        _, window, frame, maximized, before = deed
        at = self._place_of(slot, window)
        if at is not None:
            # The one that was put stays as it was handed in.
            self._rows[at] = Placed(slot, window, frame, self._rows[at].hidden, maximized, before)

    def _place_of(self, slot, window):
        for at, placed in enumerate(self._rows):
            if placed.slot == slot and placed.window == window:
                return at
        return None
