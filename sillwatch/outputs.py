"""The outputs: the screens of a server."""


class Output:
    """A screen: its number, its area in the layout, its scale and its turn."""

    def __init__(self, number, x, y, width, height, scale, turn):
        self.number = number
        self.x = x
        self.y = y
        self.width = width
        self.height = height
        self.scale = scale
        self.turn = turn

    def area(self):
        """Return the rectangle of the layout that the output shows."""
        return self.x, self.y, self.width, self.height
