"""The surfaces of a program: their drafts, their commits, and how they are put into one another."""

from sillwatch.errors import Fault
from sillwatch.regions.bands import has_square
from sillwatch.surfaces.buffers import FARTHEST_PLACE, MOST_PIXELS, Buffers
from sillwatch.surfaces.contents import changed_content, content_size, laid_over, picture_pixels, scale_fits
from sillwatch.surfaces.nesting import coming_true, is_bound, may_join, put_inside, set_beside, take_out
from sillwatch.surfaces.surface import Draft, Surface

MOST_SURFACES = 32
MOST_CALLBACKS = 64
GREATEST_TURN = 7
GREATEST_SCALE = 4


class Painting:
    """The surfaces of one program, with its buffers and regions."""

    def __init__(self):
        self.buffers = Buffers()
        self._surfaces = {}
        # Of each sub the number of its surface.
        self._subs = {}

    def serve(self, request, reply):
        """Serve a request of memory, buffer, compositor, region, surface, joiner or sub."""
        if request.interface == "compositor" and request.name == "surface":
            self._make_surface(request)
        elif request.interface == "surface":
            self._serve_surface(request, reply)
        elif request.interface == "joiner" and request.name == "join":
            self._join(request)
        elif request.interface == "sub":
            self._serve_sub(request)
        else:
            self.buffers.serve(request, self.pixel_count() - self.buffers.pixel_count(), reply)
            if request.interface == "buffer" and request.name == "destroy":
                self._detach(request.number)

    def take_callbacks(self):
        """Return the callbacks that wait for a tick, and leave none."""
        taken = []
        for surface in self._surfaces.values():
            taken.extend(surface.called)
            surface.called = []
        return taken

    def surfaces(self):
        """Return the numbers of all surfaces, in the order in which they were made."""
        return list(self._surfaces)

    def content_of(self, surface):
        """Return the content of a surface."""
        return self._surfaces[surface].content

    def size_of(self, surface):
        """Return the width and the height of a surface, or None without a picture."""
        return content_size(self.content_of(surface))

    def tree_of(self, surface):
        """Return the rows (surface, x, y) of a surface and those that it shows, from the lowest."""
        content = self.content_of(surface)
        if content.picture is None:
            return []
        rows = []
        for inner in content.order:
            if inner == surface:
                rows.append((surface, 0, 0))
            else:
                dx, dy = content.places[inner]
                rows.extend([(number, x + dx, y + dy) for number, x, y in self.tree_of(inner)])
        return rows

    def hears_at(self, surface, x, y):
        """Tell whether a place lies in the size of a surface and in the region where it hears."""
        size = self.size_of(surface)
        if size is None or not 0 <= x < size[0] or not 0 <= y < size[1]:
            return False
        region = self.content_of(surface).hears
        return region is None or has_square(region, x, y)

    def pixel_count(self):
        """Return how many pixels the program has: in buffers, in what surfaces show, and in what waits."""
        return self._pixels_with({}, {})

    def may_claim(self, surface, role):
        """Tell whether a surface may be given a role now."""
        return self._surfaces[surface].may_have(role)

    def claim(self, surface, role):
        """Give a surface a role for a window or a popup, and tell whether it may have it."""
        claimed = self._surfaces[surface]
        if not claimed.may_have(role):
            return False
        claimed.role = role
        claimed.is_held = True
        return True

    def release(self, surface):
        """Say that the window or popup of a surface has been destroyed."""
        released = self._surfaces[surface]
        released.is_held = False

    def _make_surface(self, request):
        if len(self._surfaces) >= MOST_SURFACES:
            raise Fault(request.number, 5, "too many surfaces")
        number = request.arguments[0]
        self._surfaces[number] = Surface(number)

    def _serve_surface(self, request, reply):
        surface = self._surfaces[request.number]
        if request.name == "commit":
            self._commit(request, reply)
        elif request.name == "destroy":
            self._destroy(request, reply)
        elif request.name == "frame":
            if len(surface.all_callbacks()) >= MOST_CALLBACKS:
                raise Fault(request.number, 9, "too many callbacks")
            surface.draft.callbacks.append(request.arguments[0])
        else:
            self._say(surface.draft, request)

    def _say(self, draft, request):
        """Say in a draft what a request tells of the content."""
        value = request.arguments[0]
        if request.name == "attach":
            draft.buffer = (True, value)
        elif request.name == "hears":
            draft.hearing = (True, self.buffers.region_of(value))
        elif request.name == "turn":
            if value > GREATEST_TURN:
                raise Fault(request.number, 10, "bad turn")
            draft.turn = value
        else:
            if not 1 <= value <= GREATEST_SCALE:
                raise Fault(request.number, 11, "bad scale")
            draft.scale = value

    def _commit(self, request, reply):
        number = request.number
        surface = self._surfaces[number]
        attached = surface.draft.buffer[1]
        change = laid_over(surface.waiting, surface.drafted(self.buffers.picture_of(attached)))
        if not scale_fits(changed_content(surface.content, change)):
            raise Fault(number, 1, "bad size")
        rows = [] if is_bound(self._surfaces, number) else coming_true(self._surfaces, number, change)
        contents = {inner: changed_content(self._surfaces[inner].content, said) for inner, said in rows}
        if self._pixels_with(contents, {number: change}) > MOST_PIXELS:
            raise Fault(number, 3, "too many pixels")
        surface.draft = Draft()
        surface.waiting = change
        for inner, said in rows:
            changed = self._surfaces[inner]
            changed.waiting = None
            changed.content = contents[inner]
            changed.called.extend(said.callbacks)
            reply.applied.append(inner)
        if attached is not None and attached != 0:
            reply.tell(attached, "buffer", "release", [])

    def _pixels_with(self, contents, waits):
        """Return how many pixels the program has if some contents come true, and other changes wait in surfaces."""
        pixels = self.buffers.pixel_count()
        for number, surface in self._surfaces.items():
            if number in contents:
                pixels += picture_pixels(contents[number].picture)
                continue
            pixels += picture_pixels(surface.content.picture)
            waiting = waits.get(number, surface.waiting)
            if waiting is not None:
                pixels += picture_pixels(waiting.attached[1])
        return pixels

    def _destroy(self, request, reply):
        surface = self._surfaces[request.number]
        if surface.is_held:
            raise Fault(request.number, 12, "role first")
        for number in surface.places:
            inner = self._surfaces[number]
            inner.parent = None
        for callback in surface.all_callbacks():
            reply.end(callback)
        del self._surfaces[request.number]

    def _detach(self, buffer):
        """Let no draft say anything of the picture of a buffer that is gone."""
        for surface in self._surfaces.values():
            draft = surface.draft
            if draft.buffer[1] == buffer:
                draft.buffer = (False, None)

    def _join(self, request):
        sub, number, parent = request.arguments
        if not may_join(self._surfaces, number, parent):
            raise Fault(request.number, 13, "cannot be joined")
        put_inside(self._surfaces, number, parent)
        self._subs[sub] = number

    def _serve_sub(self, request):
        number = self._subs[request.number]
        surface = self._surfaces[number]
        if request.name == "destroy":
            self._destroy_sub(request.number, number)
        elif surface.parent is None:
            return
        elif request.name == "place":
            self._place(request, number)
        elif request.name in ("above", "below"):
            self._set_beside(request, number)
        else:
            surface.is_free = request.name == "desync"

    def _destroy_sub(self, sub, number):
        surface = self._surfaces[number]
        surface.is_held = False
        del self._subs[sub]
        if surface.parent is not None:
            take_out(self._surfaces, number)

    def _place(self, request, number):
        x, y = request.arguments
        if not -FARTHEST_PLACE <= x <= FARTHEST_PLACE or not -FARTHEST_PLACE <= y <= FARTHEST_PLACE:
            raise Fault(request.number, 8, "bad place")
        parent = self._surfaces[self._surfaces[number].parent]
        parent.places[number] = (x, y)

    def _set_beside(self, request, number):
        sibling = request.arguments[0]
        order = self._surfaces[self._surfaces[number].parent].order
        if sibling == number or sibling not in order:
            raise Fault(request.number, 14, "no sibling")
        set_beside(order, number, sibling, 1 if request.name == "above" else 0)
