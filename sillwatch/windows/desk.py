"""The windows and popups of one program: its requests, and what it is told of them."""

from sillwatch.errors import Fault
from sillwatch.windows.deeds import deed_wishes, first_frame
from sillwatch.windows.frames import LONGEST_SIDE, inside_of, meets
from sillwatch.windows.popups import Popups
from sillwatch.windows.window import Window

MOST_WINDOWS = 16
LONGEST_TEXT = 200
MAXIMIZED = 1
FOCUSED = 2


class Desk:
    """The windows and popups of one program."""

    def __init__(self):
        self._windows = {}
        self._popups = Popups()
        self._mapped_so_far = 0
        self._last_configure = 0

    def serve(self, request, painting, view, reply):
        """Serve a request of windows, window or popup."""
        if request.interface == "popup":
            self._popups.serve(request, painting, view, reply)
        elif request.interface == "window":
            self._serve_window(request, painting, view, reply)
        elif request.name == "popup":
            self._popups.make(request, painting, view, reply)
        else:
            self._make_window(request, painting)

    def committed(self, surfaces, painting, view, reply):
        """Do what follows from commits of surfaces that came true."""
        for number in sorted(self._windows):
            window = self._windows[number]
            if window.surface in surfaces and _has_picture(painting, window) and not window.is_mapped:
                if not window.is_configured:
                    raise Fault(number, 3, "not configured")
        for surface in surfaces:
            for window in self._windows.values():
                if window.surface == surface:
                    self._follow(window, painting, view, reply)
            self._popups.committed(surface, painting, view, reply)

    def tell_frames(self, view, reply):
        """Tell the program of the outputs, the sizes and the states of its mapped windows."""
        for window in self._windows.values():
            placed = view.own_windows.get(window.number)
            if placed is None:
                continue
            _tell_outputs(window, view.areas, placed.frame, reply)
            _, _, width, height = inside_of(placed.frame)
            states = MAXIMIZED if placed.maximized else 0
            if view.focus == window.number:
                states += FOCUSED
            if window.told != (width, height, states):
                self._configure(window, width, height, states, reply)

    def dismiss_granted(self, reply):
        """Dismiss all popups with a grant, and all that hang on them."""
        self._popups.dismiss_granted(reply)

    def tell_close(self, window, reply):
        """Tell that a window is to be closed."""
        reply.tell(window, "window", "close", [])

    def window_rows(self):
        """Return the rows (window, surface, title, name) of all windows, in the order in which they were made."""
        return [(window.number, window.surface, window.title, window.name) for window in self._windows.values()]

    def surface_of(self, window):
        """Return the surface of a window, or None if there is no such window."""
        return self._windows[window].surface if window in self._windows else None

    def limits_of(self, window):
        """Return the least and the largest size of the inside of a window."""
        return self._windows[window].least, self._windows[window].largest

    def popup_rows(self, window, view):
        """Return the rows (popup, surface, place, granted) of the shown popups of a mapped window, in order."""
        return self._popups.rows(window, view)

    def _make_window(self, request, painting):
        number, surface = request.arguments
        if not painting.may_claim(surface, "window"):
            raise Fault(request.number, 1, "surface has a role")
        if len(self._windows) >= MOST_WINDOWS:
            raise Fault(request.number, 2, "too many windows")
        painting.claim(surface, "window")
        self._windows[number] = Window(number, surface)

    def _serve_window(self, request, painting, view, reply):
        window = self._windows[request.number]
        if request.name == "destroy":
            self._destroy(window, painting, reply)
        elif request.name in ("title", "name"):
            _say_text(window, request)
        elif request.name == "ack":
            window.acknowledge(request.arguments[0])
        elif request.name == "map_with":
            window.serial = request.arguments[0]
        elif request.name in ("least", "largest"):
            _check_size(request)
            _say_limit(window, request)
        else:
            if request.name in ("smaller", "grow"):
                _check_size(request)
            self._perform(request, view, reply)

    def _perform(self, request, view, reply):
        """Wish what a request asks of a frame or of the stack, and dismiss what may not stay behind it."""
        wishes = deed_wishes(request, view)
        for wish in wishes:
            reply.wish(wish)
        if wishes and request.name in ("grow", "maximize", "restore"):
            self.dismiss_granted(reply)

    def _destroy(self, window, painting, reply):
        if window.is_mapped:
            reply.wish(("unmap", window.number))
        self._popups.parent_ends(window.number, reply)
        painting.release(window.surface)
        del self._windows[window.number]

    def _follow(self, window, painting, view, reply):
        """Map or unmap a window, or answer its first commit, as a commit of its surface leaves it."""
        if _has_picture(painting, window):
            if not window.is_mapped:
                self._show(window, painting, view, reply)
        elif window.is_mapped:
            reply.wish(("unmap", window.number))
            window.forget()
            self._popups.dismiss_hanging(window.number, reply)
        elif window.told is None:
            self._configure(window, 0, 0, 0, reply)

    def _show(self, window, painting, view, reply):
        """Map a window."""
        size = painting.size_of(window.surface)
        frame, before = first_frame(window.name, size, self._mapped_so_far, view)
        top = window.serial is not None and window.serial == view.grant
        reply.wish(("map", window.number, frame, before is not None, before, top))
        if top:
            reply.wish(("spend",))
        window.is_mapped = True
        window.serial = None
        self._mapped_so_far += 1

    def _configure(self, window, width, height, states, reply):
        self._last_configure += 1
        window.note_sent(self._last_configure, width, height, states)
        reply.tell(window.number, "window", "configure", [self._last_configure, width, height, states])


def _has_picture(painting, window):
    return painting.content_of(window.surface).picture is not None


def _say_text(window, request):
    text = request.arguments[0]
    if len(text) > LONGEST_TEXT:
        raise Fault(request.number, 6, "text too long")
    if request.name == "title":
        window.title = text
    else:
        window.name = text


def _check_size(request):
    """Raise the fault of a request whose first two arguments are a width and a height."""
    if request.arguments[0] > LONGEST_SIDE or request.arguments[1] > LONGEST_SIDE:
        raise Fault(request.number, 5, "bad size")


def _say_limit(window, request):
    width, height = request.arguments
    if request.name == "least":
        window.least = (width, height)
    else:
        window.largest = (width, height)


def _tell_outputs(window, areas, frame, reply):
    """Tell which outputs a frame meets that it did not meet before, and which ones it has left."""
    met = [place for place, area in enumerate(areas) if meets(area, frame)]
    for place in met:
        if place not in window.outputs:
            reply.tell(window.number, "window", "output", [place])
    for place in window.outputs:
        if place not in met:
            reply.tell(window.number, "window", "left", [place])
    window.outputs = met
