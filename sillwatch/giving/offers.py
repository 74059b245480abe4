"""The offers that a program keeps, and where they and drags are told."""

from sillwatch.errors import Fault

MOST_OFFERS = 2
MOST_READ = 1024


class Offers:
    """The transfer objects of one program, its offers, and whether it was told of a drag over it."""

    def __init__(self):
        self._transfers = []
        # Of each offer that can be read its goods, a dict of octets by kinds.
        self._kept = {}
        self._is_hovered = False

    def bound(self, number):
        """Note a transfer object that was bound."""
        self._transfers.append(number)

    def pane(self):
        """Return the transfer object at which offers and drags are told, or None."""
        return self._transfers[0] if self._transfers else None

    def forget(self, number):
        """Forget an object that has ended, if it is a transfer object or an offer."""
        if number in self._transfers:
            self._transfers.remove(number)
        if number in self._kept:
            del self._kept[number]

    def offered(self, objects, way, goods, reply):
        """Tell an offer, and tell whether it could be told."""
        pane = self.pane()
        if pane is None or objects.is_full() or not goods:
            return False
        number = objects.make("offer")
        reply.tell(pane, "transfer", "offer", [number, way])
        for kind, octets in goods:
            reply.tell(number, "offer", "kind", [kind, len(octets)])
        if len(self._kept) == MOST_OFFERS:
            del self._kept[list(self._kept)[0]]
        self._kept[number] = {kind: list(octets) for kind, octets in goods}
        return True

    def read(self, request, reply):
        """Answer a request to read from an offer, unless the offer is gone."""
        goods = self._kept.get(request.number)
        if goods is None:
            return
        kind, begin, length = request.arguments
        if kind not in goods:
            raise Fault(request.number, 0, "no such kind")
        if begin + length > len(goods[kind]) or length > MOST_READ:
            raise Fault(request.number, 1, "place out of range")
        reply.tell(request.number, "offer", "part", [kind, begin, goods[kind][begin:begin + length]])

    def hovers(self, surface, x, y, goods, reply):
        """Tell that a drag has come over a surface."""
        pane = self.pane()
        self._is_hovered = pane is not None
        if pane is None:
            return
        reply.tell(pane, "transfer", "hover", [surface, x, y])
        for kind, _ in goods:
            reply.tell(pane, "transfer", "hover_kind", [kind])

    def moves(self, time, x, y, reply):
        """Tell that a drag goes on over the same surface."""
        pane = self.pane()
        if self._is_hovered and pane is not None:
            reply.tell(pane, "transfer", "moved", [time, x, y])

    def leaves(self, reply):
        """Tell that a drag has gone away."""
        pane = self.pane()
        if self._is_hovered and pane is not None:
            reply.tell(pane, "transfer", "away", [])
        self._is_hovered = False

    def dropped(self):
        """Note that the offer of a drop was told, so that no drag is over the program any more."""
        self._is_hovered = False
