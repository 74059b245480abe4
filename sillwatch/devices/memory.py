"""What was painted: the scenes that the outputs have shown lately."""

from sillwatch.devices.scenes import top_cover

LONGEST_GUARD = 1000


class Painted:
    """What ticks painted: what windows covered, and when."""

    def __init__(self):
        # Rows (time, covers), the first one first. Before every tick no window was shown.
        self._rows = [(None, [])]

    def paint(self, time, covers):
        """Remember a scene that is painted at a time."""
        if self._rows[-1][0] == time:
            del self._rows[-1]
        self._rows.append((time, list(covers)))
        self._rows = self._latest(time - LONGEST_GUARD)

    def disown(self, slot):
        """Make the windows of a slot those of nobody."""
        self._rows = [(time, [_disowned(cover, slot) for cover in covers]) for time, covers in self._rows]

    def scenes(self, time, guard):
        """Return what was covered in each scene that counts at a time, the last one first."""
        return [list(covers) for _, covers in reversed(self._latest(time - guard))]

    def is_settled(self, covers, time, guard, x, y):
        """Tell whether the topmost window at a point was the same in each scene that counts."""
        window = _window_at(covers, x, y)
        return all([_window_at(scene, x, y) == window for scene in self.scenes(time, guard)])

    def was_seen(self, covers, time, guard, x, y):
        """Tell whether the topmost window at a point had its present frame in each scene that counts."""
        framed = _framed_at(covers, x, y)
        if framed is None:
            return False
        return all([_framed_at(scene, x, y) == framed for scene in self.scenes(time, guard)])

    def _latest(self, limit):
        """Return the last row, and each one before it of which the next one was painted later than a limit."""
        rows = [row for row, behind in zip(self._rows, self._rows[1:]) if behind[0] > limit]
        return rows + self._rows[-1:]


def _disowned(cover, slot):
    return (None, cover[1], cover[2], cover[3]) if cover[0] == slot else cover


def _window_at(covers, x, y):
    """Return the slot and the number of the topmost window at a point, or None."""
    cover = top_cover(covers, x, y)
    return None if cover is None else cover[:2]


def _framed_at(covers, x, y):
    """Return the slot, the number and the frame of the topmost window at a point, or None."""
    cover = top_cover(covers, x, y)
    return None if cover is None else cover[:3]
