"""The outputs: the screens of a server."""

from sillwatch.errors import BadOutputs
from sillwatch.windows.rectangles import has_squares, overlap

MOST_OUTPUTS = 4
MOST_PIXELS = 65536


class Output:
    """A screen: its number, its area in the layout, its scale and its turn."""

    def __init__(self, number, x, y, width, height, scale, turn):
        self.number = number
        self.x = x
        self.y = y
        self.width = width
        self.height = height
        self.scale = scale
        self.turn = turn

    def area(self):
        """Return the rectangle of the layout that the output shows."""
        return self.x, self.y, self.width, self.height


def check_outputs(outputs):
    """Raise an error unless a server can have these outputs."""
    if not 1 <= len(outputs) <= MOST_OUTPUTS:
        raise BadOutputs("there are too few or too many outputs")
    for at, output in enumerate(outputs):
        for other in outputs[at + 1:]:
            if output.number == other.number:
                raise BadOutputs("a number is used twice")
            if has_squares(overlap(output.area(), other.area())):
                raise BadOutputs("two areas have a square in common")
    if sum([output.width * output.height * output.scale * output.scale for output in outputs]) > MOST_PIXELS:
        raise BadOutputs("there are too many pixels")


def output_numbered(outputs, number):
    """Return the output with a number, or None."""
    for output in outputs:
        if output.number == number:
            return output
    return None


def output_fields(output):
    """Return all fields of an output, in the order of its arguments."""
    return [output.number, output.x, output.y, output.width, output.height, output.scale, output.turn]


def copied_outputs(outputs):
    """Return new outputs with the same fields."""
    return [
        Output(output.number, output.x, output.y, output.width, output.height, output.scale, output.turn)
        for output in outputs
    ]
