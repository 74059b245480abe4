"""The fetches and the watches of a program: what it follows of other programs."""

from sillwatch.errors import Fault

LONGEST_TEXT = 128
MOST_FETCHES = 4
MOST_WATCHES = 8
MOST_READ = 1024


class Fetch:
    """A fetch: the name under which it looks, and the octets that it had with the last tick, or None."""

    def __init__(self, name):
        self.name = name
        self.octets = None


class Watch:
    """A watch: the label for which it looks, and what it was told last: True or False, or None if nothing."""

    def __init__(self, label):
        self.label = label
        self.told = None


class Fetches:
    """The fetches and the watches of one program, by the numbers of their objects."""

    def __init__(self):
        self._fetches = {}
        self._watches = {}

    def make_fetch(self, request):
        """Make a fetch."""
        number, name = request.arguments
        _check_new(request, self._fetches, MOST_FETCHES)
        self._fetches[number] = Fetch(name)

    def make_watch(self, request):
        """Make a watch."""
        number, label = request.arguments
        _check_new(request, self._watches, MOST_WATCHES)
        self._watches[number] = Watch(label)

    def names(self):
        """Return the names of all fetches, in order."""
        return [fetch.name for fetch in self._fetches.values()]

    def labels(self):
        """Return the labels of all watches, in order."""
        return [watch.label for watch in self._watches.values()]

    def compare(self, shared, present, reply):
        """Tell what is other than with the last tick."""
        for (number, fetch), octets in zip(self._fetches.items(), shared):
            if octets is not None and octets != fetch.octets:
                reply.tell(number, "fetch", "changed", [len(octets)])
            elif octets is None and fetch.octets is not None:
                reply.tell(number, "fetch", "gone", [])
            fetch.octets = None if octets is None else list(octets)
        for (number, watch), is_there in zip(self._watches.items(), present):
            if watch.told != is_there:
                reply.tell(number, "watch", "there" if is_there else "gone", [])
            watch.told = is_there

    def read(self, request, reply):
        """Answer a request to read what a fetch has."""
        begin, length = request.arguments
        octets = self._fetches[request.number].octets
        if octets is None or begin + length > len(octets) or length > MOST_READ:
            raise Fault(request.number, 1, "place out of range")
        reply.tell(request.number, "fetch", "part", [begin, octets[begin:begin + length]])

    def forget(self, number):
        """Forget an object that has ended, if it is a fetch or a watch."""
        if number in self._fetches:
            del self._fetches[number]
        if number in self._watches:
            del self._watches[number]


def _check_new(request, present, most):
    if len(request.arguments[1]) > LONGEST_TEXT:
        raise Fault(request.number, 3, "text too long")
    if len(present) >= most:
        raise Fault(request.number, 2, "too much")
