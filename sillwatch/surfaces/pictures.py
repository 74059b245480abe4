"""Pictures: rows of colours."""

CLEAR = 0


class Picture:
    """A picture: its width, its height and its colours, row by row."""

    def __init__(self, width, height, pixels):
        self.width = width
        self.height = height
        self.pixels = pixels

    def colour_at(self, x, y):
        """Return the colour at a place, which is clear outside of the picture."""
        if 0 <= x < self.width and 0 <= y < self.height:
            return self.pixels[y * self.width + x]
        return CLEAR

    def turned(self, turn):
        """Return a new picture, turned by a number from 0 to 7."""
        walk = Walk(self.width, self.height, turn)
        pixels = []
        for y in range(walk.height):
            pixels.extend([self.pixels[at] for at in walk.row_places(0, y, walk.width)])
        return Picture(walk.width, walk.height, pixels)

    def is_alike(self, other):
        """Tell whether another picture has the same colours at the same places."""
        # Most pictures that are compared are one and the same, and their colours need no look.
        if self is other:
            return True
        return (self.width, self.height) == (other.width, other.height) and self.pixels == other.pixels


class Walk:
    """The way through the colours of a picture on which a turned one is met row by row.

    It has the size of the turned picture, the place of the first colour, and the ways to the right and down.
    """

    def __init__(self, width, height, turn):
        self.width = width
        self.height = height
        self.first = 0
        self.right = 1
        self.down = width
        if turn >= 4:
            self.first = width - 1
            self.right = -1
        for _ in range(turn % 4):
            self._make_quarter()

    def row_places(self, x, y, many):
        """Return the places of so many colours to the right from a place of the turned picture on."""
        begin = self.first + x * self.right + y * self.down
        return list(range(begin, begin + many * self.right, self.right))

    def _make_quarter(self):
        """Bring the top to the right: what went down goes to the left, what went to the right goes down."""
        self.first += (self.height - 1) * self.down
        self.right, self.down = -self.down, self.right
        self.width, self.height = self.height, self.width


def clear_picture(width, height):
    """Return a new picture that is clear everywhere."""
    return Picture(width, height, [CLEAR] * (width * height))
