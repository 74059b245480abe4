"""The popups of a program: what they hang on, where they stand, and when they are shown."""

from sillwatch.errors import Fault
from sillwatch.windows.frames import LONGEST_SIDE, inside_of, output_of
from sillwatch.windows.positions import place_popup

MOST_POPUPS = 16
FARTHEST_PLACE = 4096


class Popup:
    """A popup: its parent (None if that is gone), its positioner, and its place from the corner of the parent."""

    def __init__(self, number, surface, parent, positioner, is_granted):
        self.number = number
        self.surface = surface
        self.parent = parent
        self.positioner = positioner
        self.is_granted = is_granted
        self.is_shown = False
        self.place = None


class Popups:
    """The popups of one program, by their numbers, in the order in which they were made."""

    def __init__(self):
        self._popups = {}

    def make(self, request, painting, view, reply):
        """Make a popup, with a grant if the serial is the one of the program's grant."""
        number, surface, parent, *positioner, serial = request.arguments
        if not painting.may_claim(surface, "popup"):
            raise Fault(request.number, 1, "surface has a role")
        if len(self._popups) >= MOST_POPUPS:
            raise Fault(request.number, 2, "too many windows")
        _check_positioner(request.number, positioner)
        painting.claim(surface, "popup")
        is_granted = view.grant is not None and serial == view.grant
        self._popups[number] = Popup(number, surface, parent, tuple(positioner), is_granted)
        if is_granted:
            reply.wish(("spend",))

    def serve(self, request, painting, view, reply):
        """Serve a request of a popup."""
        if request.name == "place":
            self._replace(request, view, reply)
        else:
            painting.release(self._popups[request.number].surface)
            self.parent_ends(request.number, reply)
            del self._popups[request.number]

    def committed(self, surface, painting, view, reply):
        """Do what follows for the popup of a surface, if it has one, from a commit that came true."""
        popup = self._of_surface(surface)
        if popup is None:
            return
        if painting.content_of(surface).picture is None:
            self._dismiss(self._hanging_on(popup.number), reply)
            if popup.is_shown:
                popup.is_shown = False
                popup.is_granted = False
        elif not popup.is_shown and self._is_parent_shown(popup.parent, view):
            popup.is_shown = True
            self._tell_place(popup, view, reply)

    def dismiss_hanging(self, number, reply):
        """Dismiss all popups that hang on a window or popup, directly or through others."""
        self._dismiss(self._hanging_on(number), reply)

    def dismiss_granted(self, reply):
        """Dismiss all popups with a grant, and all that hang on them."""
        dismissed = []
        for popup in self._popups.values():
            if popup.is_granted:
                dismissed.extend([popup.number] + self._hanging_on(popup.number))
        self._dismiss(dismissed, reply)

    def parent_ends(self, number, reply):
        """Dismiss what hangs on a window or popup that is destroyed, and let nothing hang on it any more."""
        self.dismiss_hanging(number, reply)
        for popup in self._popups.values():
            if popup.parent == number:
                popup.parent = None

    def rows(self, window, view):
        """Return the rows (popup, surface, place in the layout, granted) of what is shown on a window, in order."""
        if not self._popups or window not in view.own_windows:
            return []
        rows = []
        for granted in (False, True):
            for popup in self._popups.values():
                if popup.is_shown and popup.is_granted == granted and self._root_of(popup) == window:
                    rows.append((popup.number, popup.surface, self._layout_place(popup, view), granted))
        return rows

    def _replace(self, request, view, reply):
        """Give a popup another positioner, and place it anew if it is shown."""
        _check_positioner(request.number, request.arguments)
        popup = self._popups[request.number]
        is_shown = self._is_parent_shown(popup.number, view)
        if is_shown and popup.is_granted:
            return
        popup.positioner = tuple(request.arguments)
        if is_shown:
            self.dismiss_hanging(popup.number, reply)
            self._tell_place(popup, view, reply)

    def _tell_place(self, popup, view, reply):
        """Reckon the place of a popup and tell it."""
        x, y = self._corner_of(popup.parent, view)
        frame = view.own_windows[self._root_of(popup)].frame
        room = output_of(view.areas, frame) if popup.is_granted else inside_of(frame)
        popup.place = place_popup(popup.positioner, (room[0] - x, room[1] - y, room[2], room[3]))
        reply.tell(popup.number, "popup", "placed", list(popup.place))

    def _dismiss(self, numbers, reply):
        for popup in reversed(list(self._popups.values())):
            if popup.number not in numbers:
                continue
            if popup.is_shown:
                reply.tell(popup.number, "popup", "done", [])
            popup.is_shown = False
            popup.is_granted = False

    def _hanging_on(self, number):
        """Return the numbers of all popups that hang on a window or popup, directly or through others."""
        found = []
        for popup in self._popups.values():
            # A popup is made behind its parent, so what the parent hangs on is known by then.
            if popup.parent == number or popup.parent in found:
                found.append(popup.number)
        return found

    def _of_surface(self, surface):
        for popup in self._popups.values():
            if popup.surface == surface:
                return popup
        return None

    def _is_parent_shown(self, number, view):
        """Tell whether a window or popup is shown, so that what hangs on it can be."""
        popup = self._popups.get(number)
        if popup is None:
            return number in view.own_windows
        return popup.is_shown and self._is_parent_shown(popup.parent, view)

    def _root_of(self, popup):
        """Return the number of the window on which a popup hangs, or None if it hangs on none any more."""
        number = popup.parent
        while number in self._popups:
            number = self._popups[number].parent
        return number

    def _corner_of(self, number, view):
        """Return the corner in the layout of a window's inside or of a popup."""
        if number in self._popups:
            x, y, _, _ = self._layout_place(self._popups[number], view)
        else:
            x, y, _, _ = inside_of(view.own_windows[number].frame)
        return x, y

    def _layout_place(self, popup, view):
        """Return the place of a popup that is shown as a rectangle of the layout."""
        x, y = self._corner_of(popup.parent, view)
        dx, dy, width, height = popup.place
        return x + dx, y + dy, width, height


def _check_positioner(number, positioner):
    """Raise the fault of a positioner with a length or a place out of its range."""
    ax, ay, aw, ah, _, _, _, _, width, height, dx, dy, _ = positioner
    for size in (width, height):
        if not 1 <= size <= LONGEST_SIDE:
            raise Fault(number, 5, "bad size")
    for length in (aw, ah):
        if not 0 <= length <= LONGEST_SIDE:
            raise Fault(number, 5, "bad size")
    for place in (ax, ay, dx, dy):
        if not -FARTHEST_PLACE <= place <= FARTHEST_PLACE:
            raise Fault(number, 5, "bad size")
