"""Rectangles of the layout: what they have in common, and what they have of one another."""

import itertools
import unittest

from sillwatch.windows.rectangles import has_all_of, has_point, has_squares, overlap


def squares_of(rectangle):
    x, y, width, height = rectangle
    return {(a, b) for a in range(x, x + width) for b in range(y, y + height)}


class TwoRectangles(unittest.TestCase):
    def test_by_their_squares(self):
        sides = [(0, 1), (0, 3), (1, 1), (1, 2), (2, 1), (-1, 2), (-1, 5)]
        rectangles = [(x, y, width, height) for x, width in sides for y, height in sides]
        for a, b in itertools.product(rectangles, rectangles):
            common = squares_of(a) & squares_of(b)
            self.assertEqual(squares_of(overlap(a, b)), common)
            self.assertIs(has_squares(overlap(a, b)), bool(common))
            self.assertIs(has_all_of(a, b), squares_of(b) <= squares_of(a))

    def test_points(self):
        for x, y in itertools.product(range(-2, 6), range(-2, 6)):
            self.assertIs(has_point((1, 0, 3, 2), x, y), (x, y) in squares_of((1, 0, 3, 2)))


if __name__ == "__main__":
    unittest.main()
