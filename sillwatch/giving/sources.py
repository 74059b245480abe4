"""The sources of a program: the pieces that it wants to give."""

from sillwatch.errors import Fault

MOST_SOURCES = 8
MOST_KINDS = 16
MOST_OCTETS = 32768
LONGEST_TEXT = 128


class Source:
    """A source: a dict of the octets of its pieces by their kinds, and whether it is used up."""

    def __init__(self):
        self.pieces = {}
        self.is_used = False


class Sources:
    """The sources of one program, by the numbers of their objects."""

    def __init__(self):
        self._sources = {}

    def make(self, request):
        """Make a source without pieces."""
        if len(self._fresh()) >= MOST_SOURCES:
            raise Fault(request.number, 2, "too much")
        self._sources[request.arguments[0]] = Source()

    def write(self, request):
        """Append octets to a piece of a source."""
        kind, octets = request.arguments
        source = self._sources[request.number]
        if source.is_used:
            return
        if len(kind) > LONGEST_TEXT:
            raise Fault(request.number, 3, "text too long")
        written = sum([len(piece) for fresh in self._fresh() for piece in fresh.pieces.values()])
        if written + len(octets) > MOST_OCTETS:
            raise Fault(request.number, 2, "too much")
        if kind not in source.pieces and len(source.pieces) >= MOST_KINDS:
            raise Fault(request.number, 2, "too much")
        source.pieces[kind] = source.pieces.get(kind, []) + octets

    def is_used(self, number):
        """Tell whether a source is used up."""
        return self._sources[number].is_used

    def use_up(self, number):
        """Use up a source, and return its goods."""
        source = self._sources[number]
        source.is_used = True
        return [(kind, list(octets)) for kind, octets in source.pieces.items()]

    def forget(self, number):
        """Forget an object that has ended, if it is a source."""
        if number in self._sources:
            del self._sources[number]

    def _fresh(self):
        """Return the sources that are not used up."""
        return [source for source in self._sources.values() if not source.is_used]
