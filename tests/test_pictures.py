"""Points 25 and 26: pictures and turns."""

import unittest

from sillwatch.surfaces.pictures import Picture, Walk, clear_picture


def numbered(width, height):
    return Picture(width, height, [1000 + k for k in range(width * height)])


def rows_of(picture):
    return [[picture.colour_at(x, y) for x in range(picture.width)] for y in range(picture.height)]


def quarter(rows):
    """Bring the top to the right."""
    return [[row[x] for row in reversed(rows)] for x in range(len(rows[0]))]


class Pictures(unittest.TestCase):
    def test_fields(self):
        picture = Picture(2, 1, [5, 6])
        self.assertEqual((picture.width, picture.height, picture.pixels), (2, 1, [5, 6]))

    def test_colours(self):
        picture = numbered(3, 2)
        self.assertEqual(rows_of(picture), [[1000, 1001, 1002], [1003, 1004, 1005]])
        self.assertEqual(picture.colour_at(2, 1), 1005)

    def test_outside(self):
        picture = numbered(3, 2)
        for x, y in [(-1, 0), (0, -1), (3, 0), (0, 2), (3, 1), (2, 2), (-1, -1), (-3, 1), (99, 99), (1, -2)]:
            self.assertEqual(picture.colour_at(x, y), 0)

    def test_clear(self):
        picture = clear_picture(3, 2)
        self.assertEqual((picture.width, picture.height, picture.pixels), (3, 2, [0] * 6))
        picture.pixels[0] = 9
        self.assertEqual(clear_picture(3, 2).pixels, [0] * 6)
        self.assertEqual(clear_picture(1, 4).height, 4)

    def test_alike(self):
        picture = numbered(3, 2)
        self.assertTrue(picture.is_alike(picture))
        self.assertTrue(picture.is_alike(numbered(3, 2)))
        for other in [numbered(2, 3), numbered(6, 1), numbered(3, 1), numbered(3, 3), clear_picture(3, 2)]:
            self.assertFalse(picture.is_alike(other))
            self.assertFalse(other.is_alike(picture))
        other = numbered(3, 2)
        other.pixels[5] = 7
        self.assertFalse(picture.is_alike(other))


class Turns(unittest.TestCase):
    def test_single_turns(self):
        picture = Picture(3, 2, [1, 2, 3, 4, 5, 6])
        for turn, rows in enumerate([
            [[1, 2, 3], [4, 5, 6]],
            [[4, 1], [5, 2], [6, 3]],
            [[6, 5, 4], [3, 2, 1]],
            [[3, 6], [2, 5], [1, 4]],
            [[3, 2, 1], [6, 5, 4]],
            [[6, 3], [5, 2], [4, 1]],
            [[4, 5, 6], [1, 2, 3]],
            [[1, 4], [2, 5], [3, 6]],
        ]):
            turned = picture.turned(turn)
            with self.subTest(turn=turn):
                self.assertEqual((turned.width, turned.height), (len(rows[0]), len(rows)))
                self.assertEqual(turned.pixels, [colour for row in rows for colour in row])

    def test_all_turns(self):
        for width, height in [(1, 1), (1, 5), (5, 1), (3, 4), (4, 2), (3, 3)]:
            picture = numbered(width, height)
            for turn in range(8):
                rows = rows_of(picture)
                if turn > 3:
                    rows = [row[::-1] for row in rows]
                for _ in range(turn % 4):
                    rows = quarter(rows)
                self.assertEqual(rows_of(picture.turned(turn)), rows)

    def test_a_quarter_by_its_formula(self):
        picture = numbered(4, 3)
        turned = picture.turned(1)
        for y in range(3):
            for x in range(4):
                self.assertEqual(turned.colour_at(3 - 1 - y, x), picture.colour_at(x, y))

    def test_the_way_through_a_turned_picture(self):
        for width, height in [(1, 1), (1, 5), (5, 1), (3, 4), (4, 2)]:
            for turn in range(8):
                turned = Picture(width, height, list(range(width * height))).turned(turn)
                walk = Walk(width, height, turn)
                self.assertEqual((walk.width, walk.height), (turned.width, turned.height))
                for y in range(walk.height):
                    for x in range(walk.width):
                        places = walk.row_places(x, y, walk.width - x)
                        self.assertEqual(places, [turned.colour_at(column, y) for column in range(x, walk.width)])
                        self.assertEqual(walk.row_places(x, y, 1), [turned.colour_at(x, y)])
                    self.assertEqual(walk.row_places(0, y, 0), [])

    def test_without_colours(self):
        for width, height in [(0, 0), (0, 3), (3, 0)]:
            for turn in range(8):
                turned = Picture(width, height, []).turned(turn)
                expected = (height, width) if turn % 2 else (width, height)
                self.assertEqual((turned.width, turned.height, turned.pixels), (*expected, []))

    def test_a_turned_picture_is_new(self):
        for turn in range(8):
            picture = numbered(3, 2)
            turned = picture.turned(turn)
            self.assertIsNot(turned, picture)
            turned.pixels[0] = 7
            turned.pixels[-1] = 7
            turned.width = 1
            self.assertEqual((picture.width, picture.height, picture.pixels), (3, 2, numbered(3, 2).pixels))


if __name__ == "__main__":
    unittest.main()
