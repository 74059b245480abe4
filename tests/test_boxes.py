"""Boxes around groups of rectangles, of which painting makes use (point 99)."""

import random
import unittest

from sillwatch.screens.boxes import boxes_around


def squares_of(rectangles):
    return {(a, b) for x, y, width, height in rectangles for a in range(x, x + width) for b in range(y, y + height)}


class Boxes(unittest.TestCase):
    def check(self, parts, *boxes):
        before = list(parts)
        self.assertEqual(boxes_around(parts), list(boxes))
        self.assertEqual(parts, before)

    def test_none_and_one(self):
        self.check([])
        self.check([(-3, 5, 2, 4)], (-3, 5, 2, 4))

    def test_neighbours_share_one(self):
        self.check([(0, 0, 4, 2), (0, 2, 3, 2), (5, 2, 1, 1)], (0, 0, 6, 4))
        self.check([(5, 5, 2, 2), (-1, 4, 4, 3)], (-1, 4, 8, 3))

    def test_far_ones_have_their_own(self):
        self.check([(0, 0, 4, 4), (50, 0, 4, 4), (0, 4, 4, 1), (50, 4, 4, 1)], (0, 0, 4, 5), (50, 0, 4, 5))
        self.check([(0, 0, 2, 2), (2, 2, 2, 2), (0, 9, 2, 2)], (0, 0, 4, 4), (0, 9, 2, 2))

    def test_at_most_twice_as_many_squares(self):
        # A box with just twice as many is taken, one with more is not.
        self.check([(0, 0, 1, 1), (3, 0, 1, 1)], (0, 0, 4, 1))
        self.check([(0, 0, 1, 1), (4, 0, 1, 1)], (0, 0, 1, 1), (4, 0, 1, 1))
        source = random.Random(1)
        for _ in range(300):
            parts = [
                (source.randint(-9, 9), source.randint(-9, 9), source.randint(1, 6), source.randint(1, 6))
                for _ in range(source.randint(0, 12))
            ]
            boxes = boxes_around(parts)
            self.assertLessEqual(squares_of(parts), squares_of(boxes))
            squares = sum(width * height for _, _, width, height in parts)
            self.assertLessEqual(sum(width * height for _, _, width, height in boxes), 2 * squares)
            self.assertLessEqual(len(boxes), len(parts))


if __name__ == "__main__":
    unittest.main()
