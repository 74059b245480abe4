"""Rows of colours over rows of colours."""

from sillwatch.screens.colours import OPAQUE, over

MOST_KNOWN = 256


class Blend:
    """Paints the rows of a surface one by one, and remembers what it has reckoned: pictures have few colours."""

    def __init__(self):
        # The last row, whether it is opaque, the row below it, and what came of both.
        self._colours = []
        self._is_opaque = True
        self._belows = []
        self._painted = []
        # Of each pair (colour, colour below) the colour that comes of it.
        self._known = {}

    def painted(self, colours, belows):
        """Return the colours over those below them, one by one."""
        is_new = colours != self._colours
        if is_new:
            self._colours = colours
            self._is_opaque = min(colours) >= OPAQUE
        if self._is_opaque:
            return colours
        if is_new or belows != self._belows:
            self._belows = belows
            self._painted = self._blended(colours, belows)
        return self._painted

    def _blended(self, colours, belows):
        known = self._known
        # Where most pairs are new ones, to look for them takes longer than to reckon.
        if len(known) > MOST_KNOWN:
            return [over(colour, below) for colour, below in zip(colours, belows)]
        pairs = list(zip(colours, belows))
        for pair in pairs:
            if pair not in known:
                known[pair] = over(pair[0], pair[1])
        return [known[pair] for pair in pairs]
