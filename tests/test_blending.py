"""Points 96 and 98: rows of a surface's colours over those below them."""

import random
import unittest

from sillwatch.screens.blending import MOST_KNOWN, Blend
from tests.test_colours import expected_over

RED, BLUE, VEIL = 0xFFC80000, 0xFF0000C8, 0x80402010


class Rows(unittest.TestCase):
    def setUp(self):
        self.blend = Blend()

    def check(self, colours, belows):
        before = (list(colours), list(belows))
        found = self.blend.painted(colours, belows)
        self.assertEqual(found, [expected_over(colour, below) for colour, below in zip(colours, belows)])
        self.assertEqual((colours, belows), before)

    def test_one_after_another(self):
        for colours, belows in [
            ([RED, BLUE], [BLUE, BLUE]), ([RED, VEIL], [BLUE, BLUE]), ([RED, VEIL], [BLUE, RED]), ([RED, VEIL], [BLUE, RED]),
            ([RED, RED], [VEIL, 5]), ([0, 0], [RED, 7]), ([0, 0], [7, RED]), ([VEIL], [RED]), ([VEIL, 0, 0], [RED, RED, RED]),
            ([RED, BLUE], [1, 2]), ([RED, BLUE], [3, 4]), ([0x00FFFFFF, 0xFEFFFFFF], [RED, BLUE]),
        ]:
            self.check(colours, belows)

    def test_the_same_row_over_others(self):
        for below in [RED, BLUE, RED, VEIL, 0, RED, RED]:
            self.check([VEIL, 0, RED, 0xFF000000], [below] * 4)

    def test_an_opaque_row_between(self):
        self.check([VEIL, VEIL], [RED, BLUE])
        self.check([RED, RED], [1, 1])
        self.check([VEIL, VEIL], [RED, BLUE])
        self.check([VEIL, VEIL], [BLUE, RED])

    def test_many_colours(self):
        source = random.Random(98)
        for _ in range(3 * MOST_KNOWN // 10):
            colours = [source.getrandbits(32) for _ in range(10)]
            self.check(colours, [source.choice([RED, source.getrandbits(32)]) for _ in range(10)])
            self.check(colours, [RED] * 10)

    def test_few_colours(self):
        source = random.Random(99)
        for _ in range(100):
            self.check([source.choice([0, VEIL, RED, 0x01020304]) for _ in range(6)],
                       [source.choice([RED, BLUE]) for _ in range(6)])


if __name__ == "__main__":
    unittest.main()
