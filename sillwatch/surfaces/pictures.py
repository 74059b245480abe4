"""Pictures: rows of colours."""

CLEAR = 0


class Picture:
    """A picture: its width, its height and its colours, row by row."""

    def __init__(self, width, height, pixels):
        self.width = width
        self.height = height
        self.pixels = pixels

    def colour_at(self, x, y):
        """Return the colour at a place, which is clear outside of the picture."""
        if 0 <= x < self.width and 0 <= y < self.height:
            return self.pixels[y * self.width + x]
        return CLEAR

    def turned(self, turn):
        """Return a new picture, turned by a number from 0 to 7."""
        picture = Picture(self.width, self.height, list(self.pixels))
        if turn >= 4:
            picture = _mirrored(picture)
        for _ in range(turn % 4):
            picture = _quarter(picture)
        return picture


def clear_picture(width, height):
    """Return a new picture that is clear everywhere."""
    return Picture(width, height, [CLEAR] * (width * height))


def _mirrored(picture):
    width = picture.width
    columns = list(range(width - 1, -1, -1))
    pixels = [picture.pixels[y * width + x] for y in range(picture.height) for x in columns]
    return Picture(width, picture.height, pixels)


def _quarter(picture):
    """Bring the top to the right: a column from below becomes a row."""
    width = picture.width
    rows = list(range(picture.height - 1, -1, -1))
    pixels = [picture.pixels[y * width + x] for x in range(width) for y in rows]
    return Picture(picture.height, width, pixels)
