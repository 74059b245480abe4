"""Points 27 to 30: buffers and regions of a program."""

import random
import unittest

from sillwatch.objects.replies import Reply
from sillwatch.regions.bands import rectangles
from sillwatch.surfaces.buffers import Buffers
from tests.helpers import ask, fault_of
from tests.test_bands import form_of, squares_of

TOP = 2 ** 32 - 1


def octets_of(*colours):
    return [octet for colour in colours for octet in colour.to_bytes(4, "little")]


class BuffersTest(unittest.TestCase):
    """Serves requests, and checks that they tell nothing and change nothing that is handed in."""

    def setUp(self):
        self.buffers = Buffers()

    def serve(self, request, other=0):
        """Serve a request; return its fault, or None."""
        reply = Reply()
        arguments = [list(value) if isinstance(value, list) else value for value in request.arguments]
        fault = fault_of(self.buffers.serve, request, other, reply)
        self.assertEqual((reply.told, reply.ended, reply.wishes, reply.applied), ([], [], [], []))
        self.assertEqual(request.arguments, arguments)
        return fault

    def make(self, number, width, height, other=0):
        return self.serve(ask(3, "memory", "buffer", number, width, height), other)

    def write(self, number, first, octets):
        return self.serve(ask(number, "buffer", "write", first, octets))

    def fill(self, number, *arguments):
        return self.serve(ask(number, "buffer", "fill", *arguments))

    def pixels(self, number):
        return self.buffers.picture_of(number).pixels


class Making(BuffersTest):
    def test_new(self):
        self.assertEqual(self.buffers.pixel_count(), 0)
        self.assertIsNone(self.buffers.picture_of(9))
        self.assertIsNone(self.buffers.region_of(9))

    def test_a_buffer_is_clear(self):
        self.assertIsNone(self.make(9, 3, 2))
        picture = self.buffers.picture_of(9)
        self.assertEqual((picture.width, picture.height, picture.pixels), (3, 2, [0] * 6))
        self.assertIsNone(self.buffers.picture_of(3))
        self.assertEqual(self.buffers.pixel_count(), 6)

    def test_sides(self):
        for at, (width, height) in enumerate([(1, 1), (1, 128), (128, 1), (2, 127)]):
            self.assertIsNone(self.make(10 + at, width, height))
        for width, height in [
            (0, 1), (1, 0), (0, 0), (129, 1), (1, 129), (129, 129), (TOP, 1), (1, TOP), (0, 129), (129, 0),
        ]:
            self.assertEqual(self.make(50, width, height), (3, 1, "bad size"))
            self.assertIsNone(self.buffers.picture_of(50))
        self.assertIsNone(self.make(20, 100, 100))

    def test_a_fault_names_the_object_that_is_asked(self):
        request = ask(77, "memory", "buffer", 9, 0, 5)
        self.assertEqual(self.serve(request), (77, 1, "bad size"))
        self.make(9, 128, 128)
        request = ask(78, "memory", "buffer", 10, 1, 1)
        self.assertEqual(self.serve(request), (78, 3, "too many pixels"))

    def test_how_many(self):
        for number in range(10, 42):
            self.assertIsNone(self.make(number, 2, 2))
        self.assertEqual(self.make(42, 1, 1), (3, 3, "too many pixels"))
        self.assertIsNone(self.buffers.picture_of(42))
        self.assertEqual(self.buffers.pixel_count(), 128)
        self.serve(ask(20, "buffer", "destroy", ends=True))
        self.assertIsNone(self.make(42, 1, 1))
        self.assertEqual(self.make(43, 1, 1), (3, 3, "too many pixels"))

    def test_how_many_pixels(self):
        self.assertIsNone(self.make(9, 128, 128))
        self.assertEqual(self.make(10, 1, 1), (3, 3, "too many pixels"))
        self.assertEqual(self.buffers.pixel_count(), 16384)
        self.serve(ask(9, "buffer", "destroy", ends=True))
        self.assertEqual(self.buffers.pixel_count(), 0)
        self.assertIsNone(self.make(9, 128, 127))
        self.assertEqual(self.make(10, 43, 3), (3, 3, "too many pixels"))
        self.assertIsNone(self.make(10, 64, 2))
        self.assertEqual(self.make(11, 1, 1), (3, 3, "too many pixels"))

    def test_other_pixels(self):
        self.assertEqual(self.make(9, 128, 128, 1), (3, 3, "too many pixels"))
        self.assertEqual(self.make(9, 1, 1, 16384), (3, 3, "too many pixels"))
        self.assertIsNone(self.make(9, 1, 1, 16383))
        self.assertEqual(self.make(10, 2, 1, 16382), (3, 3, "too many pixels"))
        self.assertIsNone(self.make(10, 1, 1, 16382))
        self.assertIsNone(self.make(11, 10, 10, 16282))
        self.assertEqual(self.buffers.pixel_count(), 102)

    def test_size_comes_before_pixels(self):
        self.make(9, 128, 128)
        self.assertEqual(self.make(10, 129, 1), (3, 1, "bad size"))
        self.assertEqual(self.make(10, 1, 0, 99999), (3, 1, "bad size"))

    def test_destroying(self):
        self.make(9, 2, 2)
        self.make(10, 3, 1)
        self.assertIsNone(self.serve(ask(9, "buffer", "destroy", ends=True)))
        self.assertIsNone(self.buffers.picture_of(9))
        self.assertEqual(self.pixels(10), [0] * 3)
        self.assertEqual(self.buffers.pixel_count(), 3)

    def test_destroying_memory_changes_nothing(self):
        self.make(9, 2, 2)
        self.fill(9, 0, 0, 1, 1, 5)
        self.assertIsNone(self.serve(ask(3, "memory", "destroy", ends=True)))
        self.assertEqual(self.pixels(9), [5, 0, 0, 0])

    def test_pictures_are_new(self):
        self.make(9, 2, 2)
        picture = self.buffers.picture_of(9)
        picture.pixels[0] = 5
        picture.pixels.append(7)
        picture.width = 9
        again = self.buffers.picture_of(9)
        self.assertEqual((again.width, again.height, again.pixels), (2, 2, [0] * 4))
        self.assertEqual(self.buffers.pixel_count(), 4)
        self.fill(9, 0, 0, 2, 2, 3)
        self.assertEqual(again.pixels, [0] * 4)

    def test_programs_are_apart(self):
        self.make(9, 2, 2)
        self.assertIsNone(Buffers().picture_of(9))
        self.assertEqual(Buffers().pixel_count(), 0)


class Writing(BuffersTest):
    def setUp(self):
        super().setUp()
        self.make(9, 3, 2)

    def refuse(self, first, octets):
        before = self.pixels(9)
        self.assertEqual(self.write(9, first, octets), (9, 4, "outside the buffer"))
        self.assertEqual(self.pixels(9), before)

    def test_order_of_octets(self):
        self.assertIsNone(self.write(9, 0, [1, 2, 3, 4]))
        self.assertEqual(self.pixels(9), [0x04030201, 0, 0, 0, 0, 0])

    def test_places(self):
        self.write(9, 0, octets_of(1, 2, 3, 4, 5, 6))
        self.assertEqual(self.pixels(9), [1, 2, 3, 4, 5, 6])
        self.write(9, 5, octets_of(TOP))
        self.assertEqual(self.pixels(9), [1, 2, 3, 4, 5, TOP])
        self.write(9, 2, octets_of(30, 40))
        self.assertEqual(self.pixels(9), [1, 2, 30, 40, 5, TOP])

    def test_beyond_the_last_pixel(self):
        self.write(9, 0, octets_of(1, 2, 3, 4, 5, 6))
        self.refuse(6, octets_of(7))
        self.refuse(5, octets_of(7, 8))
        self.refuse(0, octets_of(1, 1, 1, 1, 1, 1, 1))
        self.refuse(TOP, octets_of(7))
        self.refuse(7, [])
        self.refuse(TOP, [])

    def test_without_octets(self):
        for first in [0, 3, 5, 6]:
            self.assertIsNone(self.write(9, first, []))
        self.assertEqual(self.pixels(9), [0] * 6)

    def test_no_whole_colours(self):
        for many in [1, 2, 3, 5, 6, 7, 23]:
            self.refuse(0, [1] * many)
        self.refuse(9, [1])

    def test_other_buffers_stay(self):
        self.make(10, 3, 2)
        self.write(9, 0, octets_of(1, 2, 3))
        self.assertEqual(self.pixels(10), [0] * 6)


class Filling(BuffersTest):
    def setUp(self):
        super().setUp()
        self.make(9, 4, 3)

    def test_inside(self):
        self.assertIsNone(self.fill(9, 1, 1, 2, 1, 7))
        self.assertEqual(self.pixels(9), [0, 0, 0, 0, 0, 7, 7, 0, 0, 0, 0, 0])
        self.fill(9, 0, 0, 4, 3, TOP)
        self.assertEqual(self.pixels(9), [TOP] * 12)

    def test_wholly_outside(self):
        for x, y, width, height in [
            (4, 0, 5, 5), (0, 3, 5, 5), (-5, 0, 5, 5), (0, -5, 5, 5), (-9, -9, 1, 1), (2 ** 31 - 1, 2 ** 31 - 1, TOP, TOP),
            (-2 ** 31, 0, 2 ** 31, 3), (0, -2 ** 31, 4, 2 ** 31), (5, 0, 1, 1), (9, 9, 1, 1), (0, 0, 0, 3), (0, 0, 4, 0),
        ]:
            self.assertIsNone(self.fill(9, x, y, width, height, 7))
            self.assertEqual(self.pixels(9), [0] * 12)

    def test_far_beyond(self):
        self.fill(9, -2 ** 31, -2 ** 31, TOP, TOP, 7)
        self.assertEqual(self.pixels(9), [7] * 12)
        self.fill(9, 3, 2, TOP, TOP, 8)
        self.assertEqual(self.pixels(9), [7] * 11 + [8])
        self.fill(9, -2 ** 31, 0, 2 ** 31 + 1, 1, 9)
        self.assertEqual(self.pixels(9), [9] + [7] * 10 + [8])

    def test_each_rectangle(self):
        colour = 0
        expected = [0] * 12
        for x in range(-2, 6):
            for y in range(-2, 5):
                for width, height in [(1, 1), (2, 3), (6, 1), (1, 6), (3, 0), (0, 2)]:
                    colour += 1
                    for at in range(12):
                        if x <= at % 4 < x + width and y <= at // 4 < y + height:
                            expected[at] = colour
                    self.assertIsNone(self.fill(9, x, y, width, height, colour))
                    self.assertEqual(self.pixels(9), expected)
        self.assertEqual(self.buffers.pixel_count(), 12)


class Regions(BuffersTest):
    def make_region(self, number):
        return self.serve(ask(4, "compositor", "region", number))

    def add(self, number, *rectangle):
        return self.serve(ask(number, "region", "add", *rectangle))

    def subtract(self, number, *rectangle):
        return self.serve(ask(number, "region", "subtract", *rectangle))

    def test_a_region_is_empty(self):
        self.assertIsNone(self.make_region(9))
        self.assertEqual(self.buffers.region_of(9), [])
        self.assertIsNone(self.buffers.region_of(10))
        self.assertIsNone(self.buffers.picture_of(9))

    def test_how_many(self):
        for number in range(10, 42):
            self.assertIsNone(self.make_region(number))
        self.assertEqual(self.make_region(42), (4, 6, "too many regions"))
        self.assertIsNone(self.buffers.region_of(42))
        self.serve(ask(30, "region", "destroy", ends=True))
        self.assertIsNone(self.buffers.region_of(30))
        self.assertIsNone(self.make_region(42))
        self.assertEqual(self.serve(ask(71, "compositor", "region", 43)), (71, 6, "too many regions"))

    def test_buffers_do_not_count_as_regions(self):
        for number in range(10, 42):
            self.make(number, 1, 1)
        for number in range(50, 82):
            self.assertIsNone(self.make_region(number))

    def test_adding_and_subtracting(self):
        self.make_region(9)
        self.assertIsNone(self.add(9, 0, 0, 4, 4))
        self.assertIsNone(self.subtract(9, 1, 1, 2, 2))
        self.assertEqual(self.buffers.region_of(9), [(0, 1, ((0, 4),)), (1, 3, ((0, 1), (3, 4))), (3, 4, ((0, 4),))])
        self.add(9, 1, 1, 2, 2)
        self.assertEqual(self.buffers.region_of(9), [(0, 4, ((0, 4),))])
        self.subtract(9, -5, -5, 50, 50)
        self.assertEqual(self.buffers.region_of(9), [])

    def test_square_by_square(self):
        source = random.Random(30)
        self.make_region(9)
        squares = set()
        for _ in range(200):
            x, y = source.randint(-4, 4), source.randint(-4, 4)
            width, height = source.randint(0, 4), source.randint(0, 4)
            others = {(a, b) for a in range(x, x + width) for b in range(y, y + height)}
            if source.random() < 0.5:
                after, fault = squares | others, self.add(9, x, y, width, height)
            else:
                after, fault = squares - others, self.subtract(9, x, y, width, height)
            if len(rectangles(form_of(after))) > 32:
                self.assertEqual(fault, (9, 7, "region too complex"))
            else:
                self.assertIsNone(fault)
                squares = after
            self.assertEqual(self.buffers.region_of(9), form_of(squares))

    def test_places_and_sizes(self):
        self.make_region(9)
        for rectangle in [(-4096, -4096, 8192, 8192), (4096, 4096, 8192, 8192), (4096, -4096, 0, 0), (0, 0, 8192, 0)]:
            self.assertIsNone(self.add(9, *rectangle))
            self.assertIsNone(self.subtract(9, *rectangle))
        self.add(9, 0, 0, 1, 1)
        for rectangle in [
            (-4097, 0, 1, 1), (0, -4097, 1, 1), (4097, 0, 1, 1), (0, 4097, 1, 1), (0, 0, 8193, 1), (0, 0, 1, 8193),
            (0, 0, TOP, 1), (0, 0, 1, TOP), (-2 ** 31, 0, 0, 0), (0, 2 ** 31 - 1, 0, 0), (0, 0, 8193, 0), (0, 0, 0, 8193),
        ]:
            self.assertEqual(self.add(9, *rectangle), (9, 8, "bad place"))
            self.assertEqual(self.subtract(9, *rectangle), (9, 8, "bad place"))
            self.assertEqual(self.buffers.region_of(9), [(0, 1, ((0, 1),))])

    def test_rectangles(self):
        self.make_region(9)
        for k in range(32):
            self.assertIsNone(self.add(9, 2 * k, 0, 1, 1))
        before = self.buffers.region_of(9)
        self.assertEqual(len(rectangles(before)), 32)
        self.assertEqual(self.add(9, 64, 0, 1, 1), (9, 7, "region too complex"))
        self.assertEqual(self.buffers.region_of(9), before)
        self.assertEqual(self.add(9, 0, 9, 1, 1), (9, 7, "region too complex"))
        self.assertIsNone(self.add(9, 62, 0, 2, 1))
        self.assertIsNone(self.add(9, 1, 0, 1, 1))
        self.assertEqual(len(rectangles(self.buffers.region_of(9))), 31)
        self.assertIsNone(self.add(9, 90, 0, 1, 1))
        self.assertEqual(self.add(9, 92, 0, 1, 1), (9, 7, "region too complex"))

    def test_rectangles_by_subtracting(self):
        self.make_region(9)
        self.add(9, 0, 0, 100, 2)
        for k in range(31):
            self.assertIsNone(self.subtract(9, 2 * k + 1, 0, 1, 2))
        before = self.buffers.region_of(9)
        self.assertEqual(len(rectangles(before)), 32)
        self.assertEqual(self.subtract(9, 99, 0, 1, 1), (9, 7, "region too complex"))
        self.assertEqual(self.subtract(9, 80, 0, 1, 2), (9, 7, "region too complex"))
        self.assertEqual(self.buffers.region_of(9), before)
        self.assertIsNone(self.subtract(9, 99, 0, 1, 2))

    def test_place_comes_before_complex(self):
        self.make_region(9)
        for k in range(32):
            self.add(9, 2 * k, 0, 1, 1)
        self.assertEqual(self.add(9, 4097, 0, 1, 1), (9, 8, "bad place"))
        self.assertEqual(self.add(9, 4096, 0, 1, 1), (9, 7, "region too complex"))

    def test_regions_are_new(self):
        self.make_region(9)
        self.add(9, 0, 0, 2, 2)
        region = self.buffers.region_of(9)
        region.append((5, 6, ((0, 1),)))
        self.assertEqual(self.buffers.region_of(9), [(0, 2, ((0, 2),))])
        region = self.buffers.region_of(9)
        self.subtract(9, 0, 0, 1, 2)
        self.assertEqual(squares_of(region), {(0, 0), (0, 1), (1, 0), (1, 1)})

    def test_destroying(self):
        self.make_region(9)
        self.make_region(10)
        self.add(10, 0, 0, 1, 1)
        self.assertIsNone(self.serve(ask(9, "region", "destroy", ends=True)))
        self.assertIsNone(self.buffers.region_of(9))
        self.assertEqual(self.buffers.region_of(10), [(0, 1, ((0, 1),))])


if __name__ == "__main__":
    unittest.main()
