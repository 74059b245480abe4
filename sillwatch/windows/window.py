"""One window of a program: all that is kept of it beside its place in the stack."""

MOST_UNACKNOWLEDGED = 64


class Window:
    """A window: what its program said of it, and what the program was told of it."""

    def __init__(self, number, surface):
        self.number = number
        self.surface = surface
        self.title = ""
        self.name = ""
        self.least = (0, 0)
        self.largest = (0, 0)
        self.forget()

    def forget(self):
        """Forget, as with unmapping, the serial to map with, and all that was sent and told."""
        self.is_mapped = False
        self.serial = None
        # The numbers of the last configures that are not acknowledged, and whether any one was.
        self.sent = []
        self.is_configured = False
        # The width, the height and the states told last, or None.
        self.told = None
        # The places of the outputs that the frame was told to meet.
        self.outputs = []

    def note_sent(self, number, width, height, states):
        """Note a configure that is sent."""
        self.sent = (self.sent + [number])[-MOST_UNACKNOWLEDGED:]
        self.told = (width, height, states)

    def acknowledge(self, number):
        """Take a configure, and all before it, as acknowledged."""
        if number in self.sent:
            self.sent = self.sent[self.sent.index(number) + 1:]
            self.is_configured = True
