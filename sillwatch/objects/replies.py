"""What comes of a request."""

from sillwatch.objects.tables import event_octets


class Reply:
    """What a program is told, what ends, what is wished for, and the surfaces whose commits came true."""

    def __init__(self):
        self.told = []
        self.ended = []
        self.wishes = []
        self.applied = []

    def tell(self, number, interface, name, values):
        """Append the message of an event."""
        self.told.append(event_octets(number, interface, name, values))

    def end(self, number):
        """Append the number of an object that ends."""
        self.ended.append(number)

    def wish(self, deed):
        """Append something that the program wants of what all programs share."""
        self.wishes.append(deed)
