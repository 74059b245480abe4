"""Points 96 and 97: a colour over a colour, and the colours of slots, ground and desk."""

import random
import unittest

from sillwatch.screens.colours import DESK, GROUND, over, slot_colour


def colour_of(opacity, red, green, blue):
    return ((opacity * 256 + red) * 256 + green) * 256 + blue


def parts_of(colour):
    return [colour // 2 ** 24, colour // 2 ** 16 % 256, colour // 2 ** 8 % 256, colour % 256]


def expected_over(colour, below):
    opacity = parts_of(colour)[0]
    return colour_of(*[
        min(255, c + (n * (255 - opacity) + 127) // 255) for c, n in zip(parts_of(colour), parts_of(below))
    ])


class Over(unittest.TestCase):
    def test_examples(self):
        self.assertEqual(over(colour_of(255, 1, 2, 3), colour_of(255, 90, 80, 70)), colour_of(255, 1, 2, 3))
        self.assertEqual(over(0, colour_of(9, 90, 80, 70)), colour_of(9, 90, 80, 70))
        self.assertEqual(over(colour_of(128, 10, 20, 30), colour_of(255, 100, 200, 0)), colour_of(255, 60, 120, 30))
        self.assertEqual(over(colour_of(1, 0, 0, 0), colour_of(255, 255, 1, 128)), colour_of(255, 254, 1, 127))
        self.assertEqual(over(colour_of(254, 0, 0, 0), colour_of(255, 255, 127, 128)), colour_of(255, 1, 0, 1))

    def test_sums_above_255(self):
        self.assertEqual(over(colour_of(0, 200, 255, 1), colour_of(255, 100, 255, 255)), colour_of(255, 255, 255, 255))
        self.assertEqual(over(colour_of(128, 255, 0, 0), colour_of(0, 255, 0, 0)), colour_of(128, 255, 0, 0))

    def test_opacities(self):
        values = [0, 1, 2, 126, 127, 128, 129, 200, 253, 254, 255]
        for opacity in [0, 1, 127, 128, 254, 255]:
            for part in values:
                for below in values:
                    colour = colour_of(opacity, part, below, 255 - part)
                    under = colour_of(below, below, part, below)
                    self.assertEqual(over(colour, under), expected_over(colour, under))

    def test_any(self):
        source = random.Random(96)
        for _ in range(3000):
            colour, below = source.getrandbits(32), source.getrandbits(32)
            self.assertEqual(over(colour, below), expected_over(colour, below))


class Names(unittest.TestCase):
    def test_slots(self):
        expected = [(200, 60, 60), (60, 140, 60), (60, 90, 200), (180, 130, 30)]
        self.assertEqual([slot_colour(slot) for slot in range(4)], [colour_of(255, *parts) for parts in expected])

    def test_ground_and_desk(self):
        self.assertEqual(GROUND, colour_of(255, 232, 232, 232))
        self.assertEqual(DESK, colour_of(255, 32, 32, 48))


if __name__ == "__main__":
    unittest.main()
