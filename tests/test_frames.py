"""Points 42, 44, 45, 47, 56 and 57: frames of windows."""

import random
import unittest

from sillwatch.windows.frames import (
    can_be_caught, frame_of, grown_frame, inside_of, meets, moved_frame, output_of, part_at, placed_frame, put_into,
    resized_frame, restored_frame,
)
from sillwatch.windows.rectangles import has_point, has_squares, overlap

AREA = (100, 200, 400, 300)
NEXT = (500, 200, 300, 300)
NO_LIMIT = ((0, 0), (0, 0))


def squares(rectangle):
    x, y, width, height = rectangle
    return {(a, b) for a in range(x, x + width) for b in range(y, y + height)}


class Rectangles(unittest.TestCase):
    def test_square_by_square(self):
        source = random.Random(3)
        for _ in range(500):
            a, b = [tuple(source.randint(-4, 4) for _ in range(2)) + (source.randint(0, 4), source.randint(0, 4))
                    for _ in range(2)]
            both = squares(a) & squares(b)
            part = overlap(a, b)
            self.assertEqual(squares(part), both)
            self.assertGreaterEqual(min(part[2:]), 0)
            self.assertIs(has_squares(part), bool(both))
            self.assertIs(meets(a, b), bool(both))
            x, y = source.randint(-5, 9), source.randint(-5, 9)
            self.assertIs(has_point(a, x, y), (x, y) in squares(a))


class Insides(unittest.TestCase):
    def test_both_ways(self):
        self.assertEqual(inside_of((10, 20, 104, 112)), (12, 30, 100, 100))
        self.assertEqual(frame_of((12, 30, 100, 100)), (10, 20, 104, 112))
        self.assertEqual(inside_of((-5, -6, 20, 28)), (-3, 4, 16, 16))
        self.assertEqual(frame_of(inside_of((0, 0, 1, 1))), (0, 0, 1, 1))


class Putting(unittest.TestCase):
    def test_stays(self):
        for frame in [(100, 200, 400, 300), (150, 250, 10, 10), (499, 499, 1, 1), (100, 200, 1, 1)]:
            self.assertEqual(put_into(AREA, frame), frame)

    def test_each_way(self):
        for frame, expected in [
            ((90, 250, 50, 50), (100, 250, 50, 50)), ((470, 250, 50, 50), (450, 250, 50, 50)),
            ((150, 190, 50, 50), (150, 200, 50, 50)), ((150, 470, 50, 50), (150, 450, 50, 50)),
            ((-999, 999, 400, 300), (100, 200, 400, 300)), ((9999, -9999, 50, 50), (450, 200, 50, 50)),
            ((451, 451, 50, 50), (450, 450, 50, 50)), ((99, 199, 50, 50), (100, 200, 50, 50)),
        ]:
            self.assertEqual(put_into(AREA, frame), expected)

    def test_longer_than_the_output(self):
        self.assertEqual(put_into(AREA, (150, 250, 401, 50)), (100, 250, 401, 50))
        self.assertEqual(put_into(AREA, (-150, 250, 401, 50)), (100, 250, 401, 50))
        self.assertEqual(put_into(AREA, (150, 450, 50, 301)), (150, 200, 50, 301))
        self.assertEqual(put_into(AREA, (-999, -999, 5000, 5000)), (100, 200, 5000, 5000))


class Placing(unittest.TestCase):
    def test_counts(self):
        for count in range(10):
            way = 24 * (count % 8)
            self.assertEqual(placed_frame(AREA, count, 100, 80), (100 + way, 200 + way, 104, 92))
        self.assertEqual(placed_frame(AREA, 8 * 50 + 3, 100, 80), (172, 272, 104, 92))

    def test_put_into_the_output(self):
        self.assertEqual(placed_frame(AREA, 7, 300, 80), (100 + 96, 200 + 168, 304, 92))
        self.assertEqual(placed_frame(AREA, 7, 100, 200), (100 + 168, 200 + 88, 104, 212))

    def test_at_most_the_room(self):
        self.assertEqual(placed_frame(AREA, 0, 396, 288), (100, 200, 400, 300))
        self.assertEqual(placed_frame(AREA, 5, 397, 289), (100, 200, 400, 300))
        self.assertEqual(placed_frame(AREA, 2, 4096, 1), (100, 248, 400, 28))

    def test_at_least_sixteen(self):
        self.assertEqual(placed_frame(AREA, 0, 1, 1), (100, 200, 20, 28))
        self.assertEqual(placed_frame(AREA, 0, 16, 17), (100, 200, 20, 29))

    def test_outputs_smaller_than_the_frame(self):
        for area in [(5, 6, 1, 1), (5, 6, 19, 27), (5, 6, 4, 12)]:
            for count in range(10):
                self.assertEqual(placed_frame(area, count, 100, 100), (5, 6, 20, 28))
        self.assertEqual(placed_frame((5, 6, 19, 100), 3, 100, 40), (5, 54, 20, 52))
        self.assertEqual(placed_frame((5, 6, 100, 27), 3, 40, 100), (61, 6, 44, 28))
        self.assertEqual(placed_frame((5, 6, 20, 28), 3, 40, 100), (5, 6, 20, 28))
        self.assertEqual(placed_frame((5, 6, 21, 29), 0, 40, 100), (5, 6, 21, 29))


class Catching(unittest.TestCase):
    def check(self, expected, frame, areas=(AREA,)):
        self.assertIs(can_be_caught(list(areas), frame), expected)

    def test_columns(self):
        self.check(True, (484, 250, 50, 50))
        self.check(False, (485, 250, 50, 50))
        self.check(True, (66, 250, 50, 50))
        self.check(False, (65, 250, 50, 50))
        self.check(True, (150, 250, 16, 50))
        self.check(False, (150, 250, 15, 50))

    def test_rows(self):
        self.check(True, (150, 200, 50, 50))
        self.check(False, (150, 199, 50, 50))
        self.check(True, (150, 490, 50, 50))
        self.check(False, (150, 491, 50, 50))
        self.check(False, (150, -9999, 50, 99999))

    def test_in_one_output(self):
        self.check(False, (485, 250, 30, 50), [AREA, NEXT])
        self.check(True, (484, 250, 31, 50), [AREA, NEXT])
        self.check(True, (484, 250, 32, 50), [NEXT, AREA])
        self.check(True, (485, 250, 31, 50), [AREA, NEXT])
        below = (100, 500, 400, 300)
        self.check(False, (150, 495, 50, 50), [AREA, below])
        self.check(True, (150, 500, 50, 50), [AREA, below])

    def test_small_outputs(self):
        self.check(False, (0, 0, 50, 50), [(0, 0, 15, 10), (15, 0, 15, 10)])
        self.check(True, (0, 0, 50, 50), [(0, 0, 15, 10), (15, 0, 16, 10)])
        self.check(False, (0, 0, 50, 50), [(0, 0, 16, 9)])


class Outputs(unittest.TestCase):
    def test_where_the_corner_lies(self):
        self.assertEqual(output_of([AREA, NEXT], (499, 499, 300, 300)), AREA)
        self.assertEqual(output_of([AREA, NEXT], (500, 200, 1, 1)), NEXT)
        self.assertEqual(output_of([NEXT, AREA], (100, 200, 500, 1)), AREA)

    def test_otherwise_the_first(self):
        for frame in [(99, 200, 50, 50), (800, 250, 50, 50), (150, 500, 50, 50), (150, 199, 50, 50)]:
            self.assertEqual(output_of([AREA, NEXT], frame), AREA)
            self.assertEqual(output_of([NEXT, AREA], frame), NEXT)

    def test_meeting(self):
        for frame, first, second in [
            ((450, 250, 50, 50), True, False), ((450, 250, 51, 50), True, True), ((500, 250, 50, 50), False, True),
            ((50, 250, 50, 50), False, False), ((50, 250, 51, 50), True, False), ((799, 499, 9, 9), False, True),
            ((800, 499, 9, 9), False, False), ((600, 500, 9, 9), False, False), ((-9, -9, 9999, 9999), True, True),
        ]:
            self.assertIs(meets(AREA, frame), first)
            self.assertIs(meets(NEXT, frame), second)


class Growing(unittest.TestCase):
    def test_in_its_output(self):
        areas = [AREA, NEXT]
        self.assertEqual(grown_frame(areas, (150, 250, 50, 50), 100, 90), (150, 250, 104, 102))
        self.assertEqual(grown_frame(areas, (150, 250, 150, 150), 20, 16), (150, 250, 24, 28))
        self.assertEqual(grown_frame(areas, (450, 450, 50, 50), 100, 90), (396, 398, 104, 102))
        self.assertEqual(grown_frame(areas, (520, 250, 50, 50), 4096, 90), (500, 250, 300, 102))
        self.assertEqual(grown_frame(areas, (520, 250, 50, 50), 296, 288), (500, 200, 300, 300))
        self.assertEqual(grown_frame(areas, (0, 0, 50, 50), 50, 50), (100, 200, 54, 62))

    def test_at_least_sixteen(self):
        self.assertEqual(grown_frame([AREA], (150, 250, 50, 50), 0, 0), (150, 250, 20, 28))
        self.assertEqual(grown_frame([AREA], (150, 250, 50, 50), 15, 16), (150, 250, 20, 28))
        self.assertEqual(grown_frame([AREA], (150, 250, 50, 50), 17, 15), (150, 250, 21, 28))

    def test_small_outputs(self):
        self.assertEqual(grown_frame([(5, 6, 19, 27)], (5, 6, 20, 28), 100, 100), (5, 6, 20, 28))
        self.assertEqual(grown_frame([(5, 6, 20, 27)], (9, 9, 20, 28), 100, 100), (5, 6, 20, 28))


class Restoring(unittest.TestCase):
    def test_the_common_part(self):
        self.assertEqual(restored_frame(AREA, (150, 250, 100, 90)), (150, 250, 100, 90))
        self.assertEqual(restored_frame(AREA, (50, 150, 100, 90)), (100, 200, 50, 40))
        self.assertEqual(restored_frame(AREA, (0, 0, 5000, 5000)), AREA)
        self.assertEqual(restored_frame((150, 250, 40, 50), AREA), (150, 250, 40, 50))

    def test_at_least_sixteen(self):
        self.assertEqual(restored_frame(AREA, (480, 472, 100, 90)), (480, 472, 20, 28))
        self.assertEqual(restored_frame(AREA, (481, 472, 100, 90)), AREA)
        self.assertEqual(restored_frame(AREA, (480, 473, 100, 90)), AREA)
        self.assertEqual(restored_frame(AREA, (20, 128, 100, 100)), (100, 200, 20, 28))

    def test_nothing_in_common(self):
        for before in [(500, 250, 90, 90), (0, 250, 100, 90), (150, 500, 90, 90), (900, 900, 90, 90)]:
            self.assertEqual(restored_frame(AREA, before), AREA)


class Parts(unittest.TestCase):
    def test_title_bar(self):
        frame = (10, 20, 100, 80)
        for x, name in [
            (10, "move"), (79, "move"), (80, "minimize"), (89, "minimize"), (90, "maximize"), (99, "maximize"),
            (100, "close"), (109, "close"),
        ]:
            for y in [20, 29]:
                self.assertEqual(part_at(frame, x, y), (name, 0, 0))

    def test_narrow_title_bars(self):
        frame = (10, 20, 20, 80)
        self.assertEqual([part_at(frame, x, 25)[0] for x in (10, 19, 20, 29)], ["maximize"] * 2 + ["close"] * 2)
        frame = (10, 20, 25, 80)
        self.assertEqual([part_at(frame, x, 25)[0] for x in (10, 14, 15)], ["minimize", "minimize", "maximize"])
        frame = (10, 20, 31, 80)
        self.assertEqual([part_at(frame, x, 25)[0] for x in (10, 11)], ["move", "minimize"])

    def test_resize(self):
        frame = (10, 20, 100, 80)
        for x, side in [(10, -1), (19, -1), (20, 0), (99, 0), (100, 1), (109, 1)]:
            for y, down in [(30, 0), (89, 0), (90, 1), (99, 1)]:
                self.assertEqual(part_at(frame, x, y), ("resize", side, down))

    def test_left_if_both(self):
        frame = (10, 20, 19, 28)
        self.assertEqual([part_at(frame, x, 35)[1] for x in (10, 19, 20, 28)], [-1, -1, 1, 1])
        frame = (10, 20, 20, 28)
        self.assertEqual([part_at(frame, x, 35)[1] for x in (10, 19, 20, 29)], [-1, -1, 1, 1])
        frame = (10, 20, 8, 28)
        self.assertEqual([part_at(frame, x, 35)[1] for x in (10, 17)], [-1, -1])

    def test_low_frames(self):
        frame = (10, 20, 100, 15)
        self.assertEqual(part_at(frame, 50, 29), ("move", 0, 0))
        self.assertEqual(part_at(frame, 50, 30), ("resize", 0, 1))


class Moving(unittest.TestCase):
    def test_both_ways(self):
        self.assertEqual(moved_frame([AREA], (150, 250, 50, 50), 30, -20), (180, 230, 50, 50))
        self.assertEqual(moved_frame([AREA], (150, 250, 50, 50), 0, 0), (150, 250, 50, 50))
        self.assertEqual(moved_frame([AREA], (150, 250, 50, 50), 334, 240), (484, 490, 50, 50))
        self.assertEqual(moved_frame([AREA, NEXT], (150, 250, 50, 50), 500, 20), (650, 270, 50, 50))

    def test_sideways_alone(self):
        self.assertEqual(moved_frame([AREA], (150, 250, 50, 50), 30, -51), (180, 250, 50, 50))
        self.assertEqual(moved_frame([AREA], (150, 250, 50, 50), 30, 241), (180, 250, 50, 50))

    def test_up_and_down_alone(self):
        self.assertEqual(moved_frame([AREA], (150, 250, 50, 50), 335, 20), (150, 270, 50, 50))
        self.assertEqual(moved_frame([AREA], (150, 250, 50, 50), -85, 20), (150, 270, 50, 50))

    def test_sideways_first(self):
        # An output to the right and one below: either way alone can be caught, both cannot.
        areas = [(0, 0, 100, 100), (100, 0, 100, 100), (0, 100, 100, 100)]
        self.assertEqual(moved_frame(areas, (20, 20, 50, 50), 100, 100), (120, 20, 50, 50))

    def test_not_at_all(self):
        self.assertEqual(moved_frame([AREA], (150, 250, 50, 50), 400, 400), (150, 250, 50, 50))
        self.assertEqual(moved_frame([AREA], (484, 490, 50, 50), 1, 1), (484, 490, 50, 50))

    def test_that_cannot_be_caught_now(self):
        self.assertEqual(moved_frame([AREA], (900, 900, 50, 50), 400, -5000), (1300, -4100, 50, 50))
        self.assertEqual(moved_frame([AREA], (485, 250, 50, 50), 1, 0), (486, 250, 50, 50))
        self.assertEqual(moved_frame([AREA], (485, 250, 50, 50), -1, 0), (484, 250, 50, 50))

    def test_a_frame_that_is_not_changed_by_one_way(self):
        self.assertEqual(moved_frame([AREA], (150, 250, 50, 50), 400, 0), (150, 250, 50, 50))
        self.assertEqual(moved_frame([AREA], (150, 250, 50, 50), 0, 400), (150, 250, 50, 50))


class Resizing(unittest.TestCase):
    def resize(self, part, dx, dy, least=(0, 0), largest=(0, 0), frame=(10, 20, 104, 112)):
        return resized_frame(frame, part, dx, dy, least, largest)

    def test_each_side(self):
        self.assertEqual(self.resize(("resize", 1, 0), 5, 7), (10, 20, 109, 112))
        self.assertEqual(self.resize(("resize", -1, 0), 5, 7), (15, 20, 99, 112))
        self.assertEqual(self.resize(("resize", 0, 1), 5, 7), (10, 20, 104, 119))
        self.assertEqual(self.resize(("resize", 1, 1), -5, -7), (10, 20, 99, 105))
        self.assertEqual(self.resize(("resize", -1, 1), -5, -7), (5, 20, 109, 105))
        self.assertEqual(self.resize(("resize", 0, 0), 5, 7), (10, 20, 104, 112))

    def test_least(self):
        self.assertEqual(self.resize(("resize", 1, 1), -50, -50, (60, 70)), (10, 20, 64, 82))
        self.assertEqual(self.resize(("resize", 1, 1), -40, -30, (60, 70)), (10, 20, 64, 82))
        self.assertEqual(self.resize(("resize", -1, 0), 50, 0, (60, 70)), (50, 20, 64, 112))

    def test_largest(self):
        self.assertEqual(self.resize(("resize", 1, 1), 50, 50, (0, 0), (120, 130)), (10, 20, 124, 142))
        self.assertEqual(self.resize(("resize", -1, 0), -50, 0, (0, 0), (120, 130)), (-10, 20, 124, 112))
        self.assertEqual(self.resize(("resize", 1, 1), 50, 50, (0, 0), (0, 130)), (10, 20, 154, 142))
        self.assertEqual(self.resize(("resize", 1, 1), 50, 50, (0, 0), (120, 0)), (10, 20, 124, 162))

    def test_largest_below_least(self):
        self.assertEqual(self.resize(("resize", 1, 1), 0, 0, (200, 210), (50, 60)), (10, 20, 204, 222))
        self.assertEqual(self.resize(("resize", -1, 1), 0, 0, (200, 210), (50, 60)), (-90, 20, 204, 222))

    def test_sixteen(self):
        self.assertEqual(self.resize(("resize", 1, 1), -84, -84), (10, 20, 20, 28))
        self.assertEqual(self.resize(("resize", 1, 1), -85, -85), (10, 20, 20, 28))
        self.assertEqual(self.resize(("resize", -1, 0), 999, 0), (94, 20, 20, 112))
        self.assertEqual(self.resize(("resize", 1, 1), -85, -85, (1, 2), (3, 4)), (10, 20, 20, 28))

    def test_four_thousand_and_ninety_six(self):
        self.assertEqual(self.resize(("resize", 1, 1), 3996, 3996), (10, 20, 4100, 4108))
        self.assertEqual(self.resize(("resize", 1, 1), 3997, 9999), (10, 20, 4100, 4108))
        self.assertEqual(self.resize(("resize", -1, 0), -9999, 0), (-3986, 20, 4100, 112))

    def test_a_length_that_no_side_changes_stays(self):
        frame = (10, 20, 9, 8)
        self.assertEqual(self.resize(("resize", 1, 0), 20, 0, (60, 60), (0, 0), frame), (10, 20, 64, 8))
        self.assertEqual(self.resize(("resize", 0, 1), 0, 60, (60, 60), (0, 0), frame), (10, 20, 9, 72))
        self.assertEqual(self.resize(("resize", 0, 0), 9, 9, (60, 60), (0, 0), frame), frame)
        self.assertEqual(self.resize(("move", 0, 0), 9, 9, (60, 60), (0, 0)), (10, 20, 104, 112))

    def test_by_nothing(self):
        self.assertEqual(self.resize(("resize", 1, 1), 0, 0, *NO_LIMIT), (10, 20, 104, 112))


if __name__ == "__main__":
    unittest.main()
