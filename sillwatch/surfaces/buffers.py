"""The buffers and the regions of a program."""

from sillwatch.errors import Fault
from sillwatch.octets.fields import number_at
from sillwatch.regions.bands import rectangle_region, rectangles, united, without
from sillwatch.surfaces.pictures import Picture, clear_picture

MOST_BUFFERS = 32
MOST_PIXELS = 16384
LONGEST_SIDE = 128
MOST_REGIONS = 32
FARTHEST_PLACE = 4096
LONGEST_STRETCH = 8192
MOST_RECTANGLES = 32


class Buffers:
    """The buffers and the regions of one program, by the numbers of their objects."""

    def __init__(self):
        self._pictures = {}
        self._regions = {}

    def serve(self, request, other_pixels, reply):
        """Serve a request of memory, buffer or region, or one for a new region."""
        if request.interface == "memory" and request.name == "buffer":
            self._make_buffer(request, other_pixels)
        elif request.interface == "buffer":
            self._serve_buffer(request)
        elif request.interface == "compositor" and request.name == "region":
            self._make_region(request)
        elif request.interface == "region":
            self._serve_region(request)

    def pixel_count(self):
        """Return the number of pixels in all buffers."""
        return sum([picture.width * picture.height for picture in self._pictures.values()])

    def picture_of(self, number):
        """Return a new picture of a buffer, or None if there is no such buffer."""
        picture = self._pictures.get(number)
        if picture is None:
            return None
        return Picture(picture.width, picture.height, list(picture.pixels))

    def region_of(self, number):
        """Return the region of a region object, or None if there is no such object."""
        region = self._regions.get(number)
        return None if region is None else list(region)

    def _make_buffer(self, request, other_pixels):
        number, width, height = request.arguments
        if not 1 <= width <= LONGEST_SIDE or not 1 <= height <= LONGEST_SIDE:
            raise Fault(request.number, 1, "bad size")
        pixels = self.pixel_count() + other_pixels + width * height
        if len(self._pictures) >= MOST_BUFFERS or pixels > MOST_PIXELS:
            raise Fault(request.number, 3, "too many pixels")
        self._pictures[number] = clear_picture(width, height)

    def _serve_buffer(self, request):
        if request.name == "write":
            self._write(request)
        elif request.name == "fill":
            self._fill(request)
        else:
            del self._pictures[request.number]

    def _write(self, request):
        first, octets = request.arguments
        picture = self._pictures[request.number]
        behind = first + len(octets) // 4
        if len(octets) % 4 != 0 or behind > len(picture.pixels):
            raise Fault(request.number, 4, "outside the buffer")
        picture.pixels[first:behind] = [number_at(octets, at, 4) for at in range(0, len(octets), 4)]

    def _fill(self, request):
        x, y, width, height, colour = request.arguments
        picture = self._pictures[request.number]
        left, right = max(x, 0), min(x + width, picture.width)
        top, bottom = max(y, 0), min(y + height, picture.height)
        if left >= right:
            return
        for row in range(top, bottom):
            begin = row * picture.width
            picture.pixels[begin + left:begin + right] = [colour] * (right - left)

    def _make_region(self, request):
        if len(self._regions) >= MOST_REGIONS:
            raise Fault(request.number, 6, "too many regions")
        self._regions[request.arguments[0]] = []

    def _serve_region(self, request):
        if request.name == "destroy":
            del self._regions[request.number]
        else:
            self._regions[request.number] = self._changed_region(request)

    def _changed_region(self, request):
        """Return what a region becomes by a rectangle that is added or taken out."""
        x, y, width, height = request.arguments
        if not _is_near(x) or not _is_near(y) or width > LONGEST_STRETCH or height > LONGEST_STRETCH:
            raise Fault(request.number, 8, "bad place")
        rectangle = rectangle_region(x, y, width, height)
        before = self._regions[request.number]
        after = united(before, rectangle) if request.name == "add" else without(before, rectangle)
        if len(rectangles(after)) > MOST_RECTANGLES:
            raise Fault(request.number, 7, "region too complex")
        return after


def _is_near(place):
    return -FARTHEST_PLACE <= place <= FARTHEST_PLACE
