"""One surface of a program: all that is kept of it."""

from sillwatch.surfaces.contents import Change, empty_content


class Draft:
    """What the requests behind the last commit said of a surface: pairs (says, value), or None for nothing."""

    def __init__(self):
        self.buffer = (False, None)
        self.hearing = (False, None)
        self.turn = None
        self.scale = None
        self.callbacks = []


class Surface:
    """A surface with what it shows, what waits in it, what is said for its next commit, and where it is."""

    def __init__(self, number):
        self.content = empty_content(number)
        self.waiting = None
        self.draft = Draft()
        # The callbacks that wait for a tick.
        self.called = []
        # What the next commit says of the surfaces in this one.
        self.order = [number]
        self.places = {}
        self.parent = None
        self.is_free = False
        self.role = None
        # Whether there is a window, a popup or a sub of it.
        self.is_held = False

    def all_callbacks(self):
        """Return all callbacks: those that wait for a tick, those that wait in the surface, those of the draft."""
        waiting = [] if self.waiting is None else self.waiting.callbacks
        return self.called + waiting + self.draft.callbacks

    def drafted(self, picture):
        """Return the change that a commit of the draft says, with the picture of the buffer that is attached."""
        draft = self.draft
        return Change(
            (draft.buffer[0], picture), draft.hearing, draft.turn, draft.scale,
            list(self.order), dict(self.places), list(draft.callbacks),
        )

    def may_have(self, role):
        """Tell whether the surface may be given a role now."""
        return not self.is_held and self.role in (None, role)
