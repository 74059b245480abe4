"""Point 98: the colours of a turned picture at the places that an output's pixels take."""

import unittest

from sillwatch.screens.samples import Samples, sample_places
from sillwatch.surfaces.contents import Content, content_size
from sillwatch.surfaces.pictures import Picture


def content_of(width, height, turn, scale):
    return Content(Picture(width, height, list(range(1, width * height + 1))), turn, scale, None, [1], {})


class Places(unittest.TestCase):
    def test_examples(self):
        self.assertEqual(sample_places(0, 3, 1, 1), [0, 1, 2])
        self.assertEqual(sample_places(2, 2, 1, 3), [2, 2, 2, 3, 3, 3])
        self.assertEqual(sample_places(0, 3, 2, 1), [1, 3, 5])
        self.assertEqual(sample_places(1, 1, 3, 2), [3, 5])
        self.assertEqual(sample_places(0, 1, 2, 3), [0, 1, 1])
        self.assertEqual(sample_places(-2, 3, 1, 1), [-2, -1, 0])
        self.assertEqual(sample_places(4, 0, 1, 1), [])

    def test_by_the_formula(self):
        for scale in range(1, 5):
            for n in range(1, 5):
                expected = [scale * (2 * way + 1) // (2 * n) for way in range(-3 * n, 5 * n)]
                self.assertEqual(sample_places(-3, 8, scale, n), expected)


class Rows(unittest.TestCase):
    def check(self, content, n, first, many):
        picture = content.picture.turned(content.turn)
        samples = Samples(content, n, first, many)
        columns = [content.scale * (2 * way + 1) // (2 * n) for way in range(first * n, (first + many) * n)]
        for row in range(-2, picture.height + 2):
            self.assertEqual(samples.row(row), [picture.colour_at(column, row) for column in columns])

    def test_each_turn_and_scale(self):
        for turn in range(8):
            for scale in range(1, 4):
                content = content_of(2 * scale, 3 * scale, turn, scale)
                width, _ = content_size(content)
                for n in range(1, 5):
                    self.check(content, n, 0, width)
                    self.check(content, n, 1, 1)
                    self.check(content, n, width - 1, 1)

    def test_beyond_the_picture(self):
        for turn in range(8):
            for n in (1, 2):
                content = content_of(3, 2, turn, 1)
                for first, many in [(-2, 3), (-1, 9), (1, 4), (2, 1), (3, 2), (-5, 4), (-3, 3), (99, 1)]:
                    self.check(content, n, first, many)

    def test_rows_are_new(self):
        for turn in range(8):
            content = content_of(3, 2, turn, 1)
            samples = Samples(content, 1, -1, 5)
            expected = samples.row(0)
            found = samples.row(0)
            found[1] = 99
            found.append(5)
            self.assertEqual(samples.row(0), expected)
            self.assertEqual(content.picture.pixels, [1, 2, 3, 4, 5, 6])


if __name__ == "__main__":
    unittest.main()
