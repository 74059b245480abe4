"""The captures of a program: pictures of outputs that it asks for."""

from sillwatch.errors import Fault

LONGEST_SIDE = 256
MOST_PIXELS = 4096
MOST_CAPTURES = 2
MOST_READ = 1024


class Captures:
    """The captures of one program, by the numbers of their objects."""

    def __init__(self):
        # Of each capture its picture, a tuple (width, height, octets), or None.
        self._pictures = {}

    def make(self, request):
        """Make a capture that waits for its answer."""
        number, _, _, _, width, height = request.arguments
        if width == 0 or height == 0:
            raise Fault(request.number, 4, "empty picture")
        if max(width, height) > LONGEST_SIDE or width * height > MOST_PIXELS or len(self._pictures) >= MOST_CAPTURES:
            raise Fault(request.number, 2, "too much")
        self._pictures[number] = None

    def answered(self, number, picture, reply):
        """Tell the answer to a capture, a picture or None, unless the capture has ended."""
        if number not in self._pictures:
            return
        if picture is None:
            reply.tell(number, "capture", "refused", [])
            return
        width, height, octets = picture
        self._pictures[number] = (width, height, list(octets))
        reply.tell(number, "capture", "allowed", [width, height])

    def read(self, request, reply):
        """Answer a request to read rows of a picture."""
        row, rows = request.arguments
        picture = self._pictures[request.number]
        if picture is None:
            raise Fault(request.number, 1, "place out of range")
        width, height, octets = picture
        size = 4 * width
        if row + rows > height or rows * size > MOST_READ:
            raise Fault(request.number, 1, "place out of range")
        reply.tell(request.number, "capture", "rows", [row, octets[row * size:(row + rows) * size]])

    def forget(self, number):
        """Forget an object that has ended, if it is a capture."""
        if number in self._pictures:
            del self._pictures[number]
