"""Point 95: the outputs."""

import copy
import unittest

from sillwatch.errors import BadOutputs
from sillwatch.outputs import Output, check_outputs, copied_outputs, output_fields, output_numbered
from tests.helpers import error_class_of


def small(number, x=0, y=0, width=10, height=10, scale=1, turn=0):
    return Output(number, x, y, width, height, scale, turn)


class Outputs(unittest.TestCase):
    def test_fields(self):
        output = Output(7, -30, 40, 512, 1, 4, 6)
        self.assertEqual((output.number, output.x, output.y), (7, -30, 40))
        self.assertEqual((output.width, output.height, output.scale, output.turn), (512, 1, 4, 6))

    def test_area(self):
        area = Output(7, -30, 40, 512, 1, 4, 6).area()
        self.assertEqual(area, (-30, 40, 512, 1))
        self.assertIsInstance(area, tuple)

    def test_copies(self):
        outputs = [small(1), Output(7, -30, 40, 512, 1, 4, 6)]
        copies = copied_outputs(outputs)
        self.assertEqual([output_fields(output) for output in copies], [[1, 0, 0, 10, 10, 1, 0], [7, -30, 40, 512, 1, 4, 6]])
        self.assertTrue(all([a is not b for a, b in zip(outputs, copies)]))

    def test_by_their_numbers(self):
        outputs = [small(5), small(0, 20)]
        self.assertIs(output_numbered(outputs, 0), outputs[1])
        self.assertIsNone(output_numbered(outputs, 1))
        self.assertIsNone(output_numbered(outputs, None))


class Checks(unittest.TestCase):
    def good(self, *outputs):
        rows = [vars(output).copy() for output in outputs]
        self.assertIsNone(check_outputs(list(outputs)))
        self.assertEqual([vars(output) for output in outputs], rows)

    def bad(self, *outputs):
        self.assertIs(error_class_of(check_outputs, list(outputs)), BadOutputs)

    def test_how_many(self):
        self.bad()
        row = [small(number, 10 * number) for number in range(5)]
        for count in range(1, 5):
            self.good(*row[:count])
        self.bad(*row)

    def test_numbers(self):
        self.good(small(0), small(999, 10))
        self.bad(small(3), small(3, 10))
        self.bad(small(3), small(4, 10), small(5, 20), small(4, 30))

    def test_areas(self):
        for x, y in [(10, 0), (-10, 0), (0, 10), (0, -10), (10, 10), (-10, 10)]:
            self.good(small(0), small(1, x, y))
            self.good(small(1, x, y), small(0))
        for x, y in [(9, 9), (-9, 9), (9, -9), (-9, -9), (0, 0), (9, 0), (0, 9)]:
            self.bad(small(0), small(1, x, y))
        self.bad(small(0, 0, 0, 100, 100), small(1, 50, 50, 1, 1))
        self.bad(small(0), small(1, 10), small(2, 19))

    def test_pixels(self):
        self.good(small(0, 0, 0, 256, 256))
        self.bad(small(0, 0, 0, 256, 257))
        self.good(small(0, 0, 0, 128, 128, 2))
        self.bad(small(0, 0, 0, 128, 129, 2))
        self.good(small(0, 0, 0, 64, 64, 4))
        self.bad(small(0, 0, 0, 65, 64, 4))
        self.good(small(0, 0, 0, 256, 255), small(1, 256, 0, 256, 1))
        self.bad(small(0, 0, 0, 256, 255), small(1, 256, 0, 257, 1))
        self.bad(small(0, 0, 0, 256, 255), small(1, 256, 0, 1, 256), small(2, 257, 0, 1, 1))
        self.good(small(0, 0, 0, 128, 128), small(1, 128, 0, 128, 128), small(2, 0, 128, 128, 128),
                  small(3, 128, 128, 128, 128))

    def test_arguments_stay(self):
        outputs = [small(0), small(1, 10)]
        before = copy.deepcopy([vars(output) for output in outputs])
        check_outputs(outputs)
        self.assertEqual([vars(output) for output in outputs], before)


if __name__ == "__main__":
    unittest.main()
