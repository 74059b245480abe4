"""Where users' actions go: the pointer, the grip, frames that are held, and the focus."""

from sillwatch.devices.held import drawn_deeds, held_at, let_go_deeds
from sillwatch.devices.scenes import covers_of, hit_at
from sillwatch.devices.sight import is_window_shown, shown_of

HOLDING_BUTTON = 1


class Routing:
    """Where the pointer is, what is pressed, and who has the focus, the pointer and the grip."""

    def __init__(self, areas):
        self.x, self.y = areas[0][:2]
        self.buttons = []
        self.codes = []
        self.focus = None
        self.pointer_at = None
        # The surface with which the focus was got.
        self._focus_surface = None
        # The slot and the surface that has the grip, or None.
        self._grip = None
        # Whether the first press was at a settled point.
        self._is_settled = False
        # The frame that is held, or None.
        self._held = None

    def motion(self, sight, time, x, y):
        """Return what comes of a motion."""
        x_before, y_before = self.x, self.y
        self.x, self.y = nearest_point(sight.areas, x, y)
        if not self.buttons:
            return self._look_up(self._hit(sight), time)
        if self._held is not None:
            return drawn_deeds(self._held, sight, self.x - x_before, self.y - y_before)
        if self._grip is None:
            return []
        slot, surface = self._grip
        shown = shown_of(sight.scene, slot, surface)
        return [] if shown is None else [(slot, ("motion", self.x - shown.x, self.y - shown.y, time))]

    def button(self, sight, time, number, down):
        """Return what comes of a press or a release of a button."""
        if down == (number in self.buttons):
            return []
        if not down:
            self.buttons.remove(number)
            return self._release(sight, time, number)
        self.buttons.append(number)
        if len(self.buttons) == 1:
            return self._press_first(sight, time, number)
        return self._told_to_grip(number, 1, time)

    def axis(self, sight, time, dx, dy):
        """Return what comes of an axis."""
        if self.pointer_at is None:
            return []
        return [(self.pointer_at[0], ("axis", dx, dy, time))]

    def key(self, sight, time, code, down):
        """Return what comes of a press or a release of a key."""
        if down == (code in self.codes):
            return []
        if down:
            self.codes.append(code)
        else:
            self.codes.remove(code)
        if self.focus is None:
            return []
        return [(self.focus[0], ("key", code, 1 if down else 0, time))]

    def switch(self, sight, slot, window):
        """Return what comes of a user's switch to a window."""
        if sight.desks[slot] is None or sight.stack.find(slot, window) is None:
            return []
        deeds = [(slot, ("unhide", window)), (slot, ("lift", window))]
        return deeds + _dismissals(sight, slot) + self._focus_on(sight, slot, window)

    def outputs_changed(self, areas):
        """Put the pointer to the nearest point of other outputs."""
        before = (self.x, self.y)
        self.x, self.y = nearest_point(areas, self.x, self.y)
        if before != (self.x, self.y):
            self._held = None

    def has_anything(self):
        """Tell whether there is anything that can be lost."""
        return any([thing is not None for thing in (self.focus, self.pointer_at, self._grip, self._held)])

    def lost(self, sight):
        """Return what comes of windows and surfaces that are shown no longer."""
        if self._held is not None and not is_window_shown(sight.scene, self._held[0], self._held[1]):
            self._held = None
        if self._grip is not None and shown_of(sight.scene, self._grip[0], self._grip[1]) is None:
            self._grip = None
        if self.pointer_at is not None and shown_of(sight.scene, self.pointer_at[0], self.pointer_at[1]) is None:
            self.pointer_at = None
        if self.focus is None or is_window_shown(sight.scene, self.focus[0], self.focus[1]):
            return []
        return self._unfocus()

    def forget_slot(self, slot):
        """Take the focus, the pointer, the grip and what is held from a slot."""
        if self.focus is not None and self.focus[0] == slot:
            self.focus = None
        if self.pointer_at is not None and self.pointer_at[0] == slot:
            self.pointer_at = None
        if self.has_grip(slot):
            self._grip = None
        if self._held is not None and self._held[0] == slot:
            self._held = None

    def has_grip(self, slot):
        """Tell whether a surface of a slot has the grip."""
        return self._grip is not None and self._grip[0] == slot

    def _hit(self, sight):
        return hit_at(sight.scene, sight.paintings, self.x, self.y)

    def _look_up(self, hit, time):
        """Give the pointer to what is hit, and return what is told of that."""
        target = None
        if hit is not None and hit[0] == "surface":
            target = (hit[1], hit[3])
            if target == self.pointer_at:
                return [(target[0], ("motion", hit[4], hit[5], time))]
        deeds = []
        if self.pointer_at is not None:
            deeds.append((self.pointer_at[0], ("leave", self.pointer_at[1])))
        if target is not None:
            deeds.append((target[0], ("enter", hit[3], hit[4], hit[5])))
        self.pointer_at = target
        return deeds

    def _press_first(self, sight, time, number):
        """Press a button while no other one is pressed."""
        covers = covers_of(sight.scene, sight.areas)
        self._is_settled = sight.painted.is_settled(covers, time, sight.guard, self.x, self.y)
        if not self._is_settled:
            return []
        hit = self._hit(sight)
        deeds = self._look_up(hit, time)
        if hit is None:
            return deeds + _dismissals(sight, None)
        kind, slot, window, surface, _, _ = hit
        deeds += _dismissals(sight, slot) + [(slot, ("lift", window))] + self._focus_on(sight, slot, window)
        if kind == "surface":
            self._grip = (slot, surface)
        elif kind == "frame" and number == HOLDING_BUTTON:
            if sight.painted.was_seen(covers, time, sight.guard, self.x, self.y):
                self._held = held_at(sight, slot, window, self.x, self.y)
        return deeds + self._told_to_grip(number, 1, time)

    def _release(self, sight, time, number):
        deeds = self._told_to_grip(number, 0, time)
        if self.buttons:
            return deeds
        self._grip = None
        if self._held is not None:
            deeds += let_go_deeds(self._held, sight, self.x, self.y)
            self._held = None
        if self._is_settled:
            deeds += self._look_up(self._hit(sight), time)
        return deeds

    def _told_to_grip(self, number, down, time):
        if self._grip is None:
            return []
        return [(self._grip[0], ("button", number, down, time))]

    def _focus_on(self, sight, slot, window):
        """Give a window the focus, and return what is told of that."""
        if self.focus == (slot, window):
            return []
        deeds = self._unfocus()
        self.focus = (slot, window)
        self._focus_surface = sight.desks[slot].surface_of(window)
        return deeds + [(slot, ("focus", self._focus_surface))]

    def _unfocus(self):
        if self.focus is None:
            return []
        slot = self.focus[0]
        self.focus = None
        return [(slot, ("unfocus", self._focus_surface))]


def nearest_point(areas, x, y):
    """Return the point of the outputs that is nearest to a place; of several that of the first output."""
    nearest = None
    least = 0
    for left, top, width, height in areas:
        point = (min(max(x, left), left + width - 1), min(max(y, top), top + height - 1))
        way = abs(point[0] - x) + abs(point[1] - y)
        if nearest is None or way < least:
            nearest = point
            least = way
    return nearest


def _dismissals(sight, slot):
    """Return the dismissals of the popups with a grant of all programs but that of a slot."""
    others = [other for other, desk in enumerate(sight.desks) if desk is not None and other != slot]
    return [(other, ("dismiss",)) for other in others]
