"""What of the pictures of surfaces is painted: the colours at the middles of an output's pixels."""

from sillwatch.surfaces.pictures import CLEAR, Walk


class Samples:
    """The rows of colours that a content has in some columns of an output's pixels."""

    def __init__(self, content, output_scale, first, many):
        """Take the columns of so many units from a first one on, as they are counted from the surface's corner."""
        picture = content.picture
        walk = Walk(picture.width, picture.height, content.turn)
        columns = sample_places(first, many, content.scale, output_scale)
        inner = [column for column in columns if 0 <= column < walk.width]
        left = len([column for column in columns if column < 0])
        self._pixels = picture.pixels
        self._walk = walk
        # The ways from the beginning of a row of the picture to its colours.
        self._ways = [column * walk.right for column in inner]
        # A part without gaps can be cut out.
        self._is_cut = bool(inner) and content.scale == output_scale and walk.right > 0
        # What lies beyond the picture is clear.
        self._left = [CLEAR] * left
        self._right = [CLEAR] * (len(columns) - len(inner) - left)

    def row(self, at):
        """Return a new list of the colours in a row of the turned picture."""
        walk = self._walk
        if not 0 <= at < walk.height:
            return self._left + [CLEAR] * len(self._ways) + self._right
        begin = walk.first + at * walk.down
        if self._is_cut:
            inner = self._pixels[begin + self._ways[0]:begin + self._ways[-1] + 1:walk.right]
        else:
            inner = [self._pixels[begin + way] for way in self._ways]
        return self._left + inner + self._right


def sample_places(first, many, scale, output_scale):
    """Return for each pixel of some units the place in the turned picture, one way, that is painted there."""
    return [
        scale * (2 * way + 1) // (2 * output_scale)
        for way in range(first * output_scale, (first + many) * output_scale)
    ]
