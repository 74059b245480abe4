"""The class of the outputs (point 95, as far as the registries use it)."""

import unittest

from sillwatch.outputs import Output


class Outputs(unittest.TestCase):
    def test_fields(self):
        output = Output(7, -30, 40, 512, 1, 4, 6)
        self.assertEqual((output.number, output.x, output.y), (7, -30, 40))
        self.assertEqual((output.width, output.height, output.scale, output.turn), (512, 1, 4, 6))

    def test_area(self):
        area = Output(7, -30, 40, 512, 1, 4, 6).area()
        self.assertEqual(area, (-30, 40, 512, 1))
        self.assertIsInstance(area, tuple)


if __name__ == "__main__":
    unittest.main()
