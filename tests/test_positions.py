"""Point 53: where popups stand."""

import unittest

from sillwatch.windows.positions import place_axis, place_popup

ROOM = (0, 100)
TURN, SLIDE, CUT = (True, False, False), (False, True, False), (False, False, True)
NONE, ALL = (False, False, False), (True, True, True)


class Axis(unittest.TestCase):
    def place(self, anchor, gravity, begin, length, size, offset=0, bits=NONE, room=ROOM):
        return place_axis(anchor, gravity, begin, length, size, offset, room, bits)

    def test_anchors_and_gravities(self):
        for anchor, point in [(-1, 40), (0, 45), (1, 51)]:
            for gravity, begin in [(-1, point - 7), (0, point - 3), (1, point)]:
                for many in (1, 2, 1000):
                    placed = self.place(anchor * many, gravity * many, 40, 11, 7)
                    self.assertEqual(placed, (begin, 7))
                    self.assertEqual(self.place(anchor * many, gravity, 40, 11, 7, -5), (begin - 5, 7))
                    self.assertEqual(self.place(anchor, gravity * many, 40, 11, 7, 6), (begin + 6, 7))

    def test_odd_lengths(self):
        self.assertEqual(self.place(0, 0, 40, 1, 1), (40, 1))
        self.assertEqual(self.place(0, 0, 40, 3, 3), (40, 3))
        self.assertEqual(self.place(0, 0, 40, 3, 4), (39, 4))
        self.assertEqual(self.place(0, 0, 40, 4, 3), (41, 3))

    def test_a_length_of_nothing(self):
        for anchor in (-1, 0, 1):
            self.assertEqual([self.place(anchor, gravity, 40, 0, 6)[0] for gravity in (-1, 0, 1)], [34, 37, 40])

    def test_before_the_room(self):
        self.assertEqual(self.place(-1, 0, -50, 9, 7, 0, NONE, (-100, 100)), (-53, 7))
        self.assertEqual(self.place(0, 0, -9, 9, 7, 0, NONE, (-100, 100)), (-8, 7))

    def test_just_in_the_room(self):
        for bits in (NONE, TURN, SLIDE, CUT, ALL):
            self.assertEqual(self.place(-1, 1, 0, 0, 7, 0, bits), (0, 7))
            self.assertEqual(self.place(-1, 1, 93, 0, 7, 0, bits), (93, 7))
            self.assertEqual(self.place(-1, 1, 0, 0, 100, 0, bits), (0, 100))

    def test_nothing_may_be_done(self):
        for begin in (-500, -1, 94, 500):
            self.assertEqual(self.place(-1, 1, begin, 0, 7), (begin, 7))

    def test_turning_over(self):
        self.assertEqual(self.place(1, 1, 80, 10, 20, 0, TURN), (60, 20))
        self.assertEqual(self.place(1, 1, 80, 10, 20, 3, TURN), (57, 20))
        self.assertEqual(self.place(-1, -1, 10, 10, 20, -3, TURN), (23, 20))
        self.assertEqual(self.place(1, 0, 80, 15, 20, 0, TURN), (70, 20))
        self.assertEqual(self.place(0, 1, 80, 15, 20, 0, TURN), (67, 20))
        self.assertEqual(self.place(0, 0, 90, 10, 20, 30, TURN), (55, 20))

    def test_turning_over_that_just_fits(self):
        self.assertEqual(self.place(1, 1, 20, 70, 20, 0, TURN), (0, 20))
        self.assertEqual(self.place(1, 1, 19, 70, 20, 0, TURN), (89, 20))
        self.assertEqual(self.place(-1, -1, 10, 70, 20, 0, TURN), (80, 20))
        self.assertEqual(self.place(-1, -1, 11, 70, 20, 0, TURN), (-9, 20))

    def test_turning_over_does_not_help(self):
        self.assertEqual(self.place(0, 0, 95, 4, 20, 0, TURN), (87, 20))
        self.assertEqual(self.place(1, 1, 5, 80, 20, 0, TURN), (85, 20))

    def test_sliding(self):
        for gravity in (-1, 0, 1):
            self.assertEqual(self.place(-1, gravity, -40, 0, 20, 0, SLIDE), (0, 20))
            self.assertEqual(self.place(-1, gravity, 140, 0, 20, 0, SLIDE), (80, 20))
            self.assertEqual(self.place(-1, gravity, 140, 0, 20, 0, SLIDE, (30, 40)), (50, 20))

    def test_sliding_what_is_longer_than_the_room(self):
        for begin in (-500, -40, 0, 10, 500):
            self.assertEqual(self.place(-1, -1, begin, 0, 120, 0, SLIDE), (-20, 120))
            self.assertEqual(self.place(-1, 0, begin, 0, 120, 0, SLIDE), (0, 120))
            self.assertEqual(self.place(-1, 1, begin, 0, 120, 0, SLIDE), (0, 120))

    def test_cutting(self):
        self.assertEqual(self.place(-1, 1, -5, 0, 20, 0, CUT), (0, 15))
        self.assertEqual(self.place(-1, 1, 90, 0, 20, 0, CUT), (90, 10))
        self.assertEqual(self.place(-1, 1, -5, 0, 200, 0, CUT), (0, 100))
        self.assertEqual(self.place(-1, 1, 99, 0, 20, 0, CUT), (99, 1))
        self.assertEqual(self.place(-1, 1, -19, 0, 20, 0, CUT), (0, 1))

    def test_nothing_in_common(self):
        for begin in (100, 101, -20, -21, 999):
            self.assertEqual(self.place(-1, 1, begin, 0, 20, 0, CUT), (begin, 20))

    def test_together(self):
        self.assertEqual(self.place(1, 1, 80, 10, 20, 0, ALL), (60, 20))
        self.assertEqual(self.place(1, 1, 5, 80, 20, 0, ALL), (80, 20))
        self.assertEqual(self.place(1, 1, 5, 80, 20, 0, (True, False, True)), (85, 15))
        self.assertEqual(self.place(1, 1, 5, 80, 120, 0, ALL), (0, 100))
        self.assertEqual(self.place(1, -1, 5, 80, 120, 0, ALL), (0, 100))
        self.assertEqual(self.place(1, 1, 500, 80, 20, 0, (False, True, True)), (80, 20))
        self.assertEqual(self.place(1, -1, 500, 80, 120, 0, (False, True, True)), (0, 100))
        self.assertEqual(self.place(1, -1, 500, 80, 120, 0, (False, False, True)), (460, 120))

    def test_square_by_square(self):
        for anchor in (-1, 0, 1):
            for gravity in (-1, 0, 1):
                for begin in range(-4, 14, 3):
                    for size in (1, 2, 5, 12):
                        for offset in (-3, 0, 2):
                            self.check_all_bits(anchor, gravity, begin, size, offset)

    def check_all_bits(self, anchor, gravity, begin, size, offset):
        """Compare with moving by single steps."""
        room = (2, 9)

        def start(sign):
            point = begin + {-1: 0, 0: 1, 1: 3}[anchor * sign]
            return point - {-1: size, 0: size // 2, 1: 0}[gravity * sign] + offset * sign

        def lies(place):
            return 2 <= place and place + size <= 11

        for number in range(8):
            bits = (number & 1 != 0, number & 2 != 0, number & 4 != 0)
            place, length = start(1), size
            if not lies(place):
                if bits[0] and lies(start(-1)):
                    place = start(-1)
                else:
                    for way in ((1, -1) if gravity < 0 else (-1, 1)) if bits[1] else ():
                        while (place < 2) if way > 0 else (place + size > 11):
                            place += way
                    squares = [at for at in range(place, place + size) if 2 <= at < 11]
                    if not lies(place) and bits[2] and squares:
                        place, length = squares[0], len(squares)
            self.assertEqual(place_axis(anchor, gravity, begin, 3, size, offset, room, bits), (place, length))


class Popups(unittest.TestCase):
    def test_each_way_by_itself(self):
        positioner = (40, 50, 11, 21, 1, -1, -1, 0, 9, 8, 3, -2, 0)
        self.assertEqual(place_popup(positioner, (0, 0, 100, 100)), (51 - 9 + 3, 50 - 4 - 2, 9, 8))

    def test_bits(self):
        room = (0, 0, 100, 90)
        for adjust, expected in [
            (0, (95, 85, 10, 10)), (1, (75, 85, 10, 10)), (2, (95, 65, 10, 10)), (3, (75, 65, 10, 10)),
            (4, (90, 85, 10, 10)), (8, (95, 80, 10, 10)), (12, (90, 80, 10, 10)), (16, (95, 85, 5, 10)),
            (32, (95, 85, 10, 5)), (48, (95, 85, 5, 5)), (63, (75, 65, 10, 10)), (64, (95, 85, 10, 10)),
            (2 ** 31 + 1, (75, 85, 10, 10)), (2 ** 32 - 1, (75, 65, 10, 10)), (6, (90, 65, 10, 10)),
        ]:
            positioner = (85, 75, 10, 10, 1, 1, 1, 1, 10, 10, 0, 0, adjust)
            self.assertEqual(place_popup(positioner, room), expected)

    def test_each_bit_by_itself(self):
        # Turned over, the popup lies outside too, so that the other bits would show.
        positioner = (-60, -60, 200, 200, 1, 1, 1, 1, 50, 50, -55, -55)
        self.assertEqual(place_popup((*positioner, 0), (0, 0, 100, 100)), (85, 85, 50, 50))
        for adjust, expected in [
            (1, (85, 85, 50, 50)), (2, (85, 85, 50, 50)), (4, (50, 85, 50, 50)), (8, (85, 50, 50, 50)),
            (16, (85, 85, 15, 50)), (32, (85, 85, 50, 15)),
        ]:
            self.assertEqual(place_popup((*positioner, adjust), (0, 0, 100, 100)), expected)

    def test_a_room_from_elsewhere(self):
        positioner = (0, 0, 5, 5, -1, -1, -1, -1, 10, 10, 0, 0, 12)
        self.assertEqual(place_popup(positioner, (-30, -40, 100, 100)), (-10, -10, 10, 10))
        self.assertEqual(place_popup(positioner, (-7, -40, 100, 100)), (-7, -10, 10, 10))
        self.assertEqual(place_popup(positioner, (20, 30, 100, 100)), (20, 30, 10, 10))


if __name__ == "__main__":
    unittest.main()
