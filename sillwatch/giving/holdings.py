"""What one program has of giving: what it gives, and what it is given."""

from sillwatch.errors import Fault
from sillwatch.giving.captures import Captures
from sillwatch.giving.fetches import Fetches
from sillwatch.giving.offers import Offers
from sillwatch.giving.sources import LONGEST_TEXT, Sources

MOST_SENT_OCTETS = 8192
MOST_SENT_NAMES = 4


class Holdings:
    """The sources, offers, captures, fetches and watches of one program, and the names under which it sends."""

    def __init__(self):
        self._sources = Sources()
        self._offers = Offers()
        self._captures = Captures()
        self._fetches = Fetches()
        self._sent_names = []

    def serve(self, request, grant, gripped, dragging, reply):
        """Serve a request of transfer, source, offer, capture, fetch or watch."""
        if request.name == "destroy":
            self.ended(request.number)
        elif request.interface == "transfer":
            self._serve_transfer(request, grant, gripped and not dragging, reply)
        elif request.interface == "source":
            self._sources.write(request)
        elif request.interface == "offer":
            self._offers.read(request, reply)
        elif request.interface == "capture":
            self._captures.read(request, reply)
        else:
            self._fetches.read(request, reply)

    def bound(self, number):
        """Note a transfer object that was bound."""
        self._offers.bound(number)

    def ended(self, number):
        """Forget an object that has ended."""
        self._sources.forget(number)
        self._offers.forget(number)
        self._captures.forget(number)
        self._fetches.forget(number)

    def pane(self):
        """Return the transfer object at which offers and drags are told, or None."""
        return self._offers.pane()

    def offered(self, objects, way, goods, reply):
        """Tell an offer, and tell whether it could be told."""
        return self._offers.offered(objects, way, goods, reply)

    def hovers(self, surface, x, y, goods, reply):
        """Tell that a drag has come over a surface."""
        self._offers.hovers(surface, x, y, goods, reply)

    def moves(self, time, x, y, reply):
        """Tell that a drag goes on over the same surface."""
        self._offers.moves(time, x, y, reply)

    def leaves(self, reply):
        """Tell that a drag has gone away."""
        self._offers.leaves(reply)

    def dropped(self):
        """Note that the offer of a drop was told."""
        self._offers.dropped()

    def answered(self, number, picture, reply):
        """Tell the answer to a capture: a picture (width, height, octets), or None if it is refused."""
        self._captures.answered(number, picture, reply)

    def compare(self, shared, present, reply):
        """Tell what fetches and watches are told with a tick."""
        self._fetches.compare(shared, present, reply)

    def fetch_names(self):
        """Return the names of all fetches, in order."""
        return self._fetches.names()

    def watch_labels(self):
        """Return the labels of all watches, in order."""
        return self._fetches.labels()

    def _serve_transfer(self, request, grant, may_drag, reply):
        if request.name == "source":
            self._sources.make(request)
        elif request.name == "give":
            self._give(request, grant, reply)
        elif request.name == "drag":
            if may_drag:
                self._give(request, grant, reply)
        elif request.name == "send":
            self._send(request, reply)
        elif request.name == "unsend":
            self._unsend(request, reply)
        elif request.name == "ask":
            self._captures.make(request)
            reply.wish(("ask", *request.arguments))
        elif request.name == "fetch":
            self._fetches.make_fetch(request)
        else:
            self._fetches.make_watch(request)

    def _give(self, request, grant, reply):
        """Give or drag the goods of a source, if the serial is that of the grant."""
        source, serial, *rest = request.arguments
        if serial != grant or self._sources.is_used(source):
            return
        goods = self._sources.use_up(source)
        reply.wish(("spend",))
        if request.name == "give":
            reply.wish(("give", goods, rest[0] != 0))
        else:
            reply.wish(("drag", goods))

    def _send(self, request, reply):
        name, octets = request.arguments
        if len(name) > LONGEST_TEXT:
            raise Fault(request.number, 3, "text too long")
        is_new = name not in self._sent_names
        if len(octets) > MOST_SENT_OCTETS or (is_new and len(self._sent_names) >= MOST_SENT_NAMES):
            raise Fault(request.number, 2, "too much")
        if is_new:
            self._sent_names.append(name)
        reply.wish(("send", name, list(octets)))

    def _unsend(self, request, reply):
        name = request.arguments[0]
        if name in self._sent_names:
            self._sent_names.remove(name)
        reply.wish(("unsend", name))
