"""Point 24: regions that are made by steps."""

import copy
import random
import unittest

from sillwatch.errors import RegionTooComplex, RegionTooLarge
from sillwatch.regions.bands import rectangles
from sillwatch.regions.steps import region_of
from tests.helpers import error_class_of
from tests.test_bands import form_of

BOUND = 1073741824
STEP = 16777216
# 25 rows of 40 rectangles, and room for more below.
THOUSAND = [("add", 0, 0, 79, 49)]
THOUSAND += [("subtract", 2 * k + 1, 0, 1, 49) for k in range(39)]
THOUSAND += [("subtract", 0, 2 * k + 1, 79, 1) for k in range(24)]
ONE_MORE = ("add", 0, 60, 1, 1)
# A staircase of few rectangles, which are many when it is turned.
STAIRS = [("add", 0, 0, 60, 101)] + [("subtract", 0, 2 * k + 1, k, 1) for k in range(50)]


def step_on(squares, step):
    """Return what a step makes of a set of squares."""
    word = step[0]
    if word in ["add", "subtract", "meet"]:
        _, x, y, width, height = step
        others = {(a, b) for a in range(x, x + width) for b in range(y, y + height)}
        if word == "add":
            return squares | others
        return squares - others if word == "subtract" else squares & others
    if word == "shift":
        return {(x + step[1], y + step[2]) for x, y in squares}
    if word == "turn":
        return {(step[1] - 1 - y, x) for x, y in squares}
    if word == "mirror":
        return {(step[1] - 1 - x, y) for x, y in squares}
    n = step[1]
    return {(n * x + a, n * y + b) for x, y in squares for a in range(n) for b in range(n)}


def some_step(source):
    word = source.choice(["add", "add", "add", "subtract", "meet", "shift", "scale", "turn", "mirror"])
    if word in ["add", "subtract"]:
        return word, source.randint(-6, 6), source.randint(-6, 6), source.randint(0, 6), source.randint(0, 6)
    if word == "meet":
        return word, source.randint(-9, -3), source.randint(-9, -3), source.randint(6, 16), source.randint(6, 16)
    if word == "shift":
        return word, source.randint(-4, 4), source.randint(-4, 4)
    return word, source.randint(1, 2) if word == "scale" else source.randint(-5, 8)


class Steps(unittest.TestCase):
    def test_no_steps(self):
        self.assertEqual(region_of([]), [])

    def test_each_step(self):
        start = ("add", 1, 2, 3, 2)
        for steps, expected in [
            ([start], [(2, 4, ((1, 4),))]),
            ([start, ("add", 4, 2, 1, 2)], [(2, 4, ((1, 5),))]),
            ([start, ("add", 0, 0, 0, 9)], [(2, 4, ((1, 4),))]),
            ([start, ("add", 0, 0, 9, 0)], [(2, 4, ((1, 4),))]),
            ([start, ("subtract", 2, 0, 1, 9)], [(2, 4, ((1, 2), (3, 4)))]),
            ([start, ("subtract", 2, 2, 0, 2)], [(2, 4, ((1, 4),))]),
            ([start, ("meet", 2, 3, 9, 9)], [(3, 4, ((2, 4),))]),
            ([start, ("meet", 2, 3, 0, 9)], []),
            ([start, ("shift", -2, 5)], [(7, 9, ((-1, 2),))]),
            ([start, ("scale", 3)], [(6, 12, ((3, 12),))]),
            ([start, ("scale", 1)], [(2, 4, ((1, 4),))]),
            ([start, ("turn", 10)], [(1, 4, ((6, 8),))]),
            ([start, ("mirror", 10)], [(2, 4, ((6, 9),))]),
        ]:
            with self.subTest(steps=steps):
                self.assertEqual(region_of(steps), expected)

    def test_steps_on_nothing(self):
        for step in [
            ("subtract", 0, 0, 5, 5), ("meet", 0, 0, 5, 5), ("shift", STEP, -STEP), ("scale", 8), ("turn", STEP),
            ("mirror", -STEP),
        ]:
            self.assertEqual(region_of([step]), [])

    def test_the_example(self):
        self.assertEqual(region_of([("add", 1, 1, 1, 2), ("shift", -3, 5), ("scale", 2)]), [(12, 16, ((-4, -2),))])

    def test_square_by_square(self):
        source = random.Random(99)
        for _ in range(150):
            steps = [some_step(source) for _ in range(8)]
            before = copy.deepcopy(steps)
            squares = set()
            for step in steps:
                squares = step_on(squares, step)
            self.assertEqual(region_of(steps), form_of(squares))
            self.assertEqual(steps, before)

    def test_two_hundred_steps(self):
        steps = [("add", 1, 0, 1, 1)] + [("shift", STEP, 0), ("shift", -STEP, 1)] * 99 + [("mirror", 2)]
        self.assertEqual(region_of(steps), [(99, 100, ((0, 1),))])


class TooLarge(unittest.TestCase):
    def check(self, steps, beyond):
        """Check steps to a region that is just kept, and a step that makes it break the bound."""
        self.assertEqual(len(region_of(steps)), 1)
        self.assertIs(error_class_of(region_of, steps + [beyond]), RegionTooLarge)

    def test_each_side(self):
        twice = [("scale", 8), ("scale", 8)]
        upper = [("add", 0, -STEP, 1, 1)] + twice
        self.assertEqual(region_of(upper), [(-BOUND, 64 - BOUND, ((0, 64),))])
        self.check(upper, ("shift", 0, -1))
        lower = [("add", 0, STEP - 1, 1, 1)] + twice
        self.assertEqual(region_of(lower), [(BOUND - 64, BOUND, ((0, 64),))])
        self.check(lower, ("shift", 0, 1))
        left = [("add", -STEP, 0, 1, 1)] + twice
        self.assertEqual(region_of(left), [(0, 64, ((-BOUND, 64 - BOUND),))])
        self.check(left, ("shift", -1, 0))
        right = [("add", STEP - 1, 0, 1, 1)] + twice
        self.assertEqual(region_of(right), [(0, 64, ((BOUND - 64, BOUND),))])
        self.check(right, ("shift", 1, 0))

    def test_other_steps(self):
        wide = [("add", 0, 0, STEP, 1), ("scale", 8), ("scale", 8)]
        self.check(wide, ("mirror", -1))
        self.check(wide, ("scale", 2))
        high = [("add", 0, 0, 1, STEP), ("scale", 8), ("scale", 8)]
        self.check(high, ("turn", -1))
        self.assertEqual(region_of(high + [("turn", 0)]), [(0, 64, ((-BOUND, 0),))])
        self.assertEqual(region_of(wide + [("mirror", 0)]), [(0, 64, ((-BOUND, 0),))])

    def test_of_several_spans_and_bands(self):
        twice = [("scale", 8), ("scale", 8)]
        for far, dx, dy in [
            (("add", STEP - 1, 0, 1, 1), 1, 0), (("add", -STEP, 0, 1, 1), -1, 0),
            (("add", 0, STEP - 1, 1, 1), 0, 1), (("add", 0, -STEP, 1, 1), 0, -1),
        ]:
            _, x, y, _, _ = far
            # Others in the same rows, in the same columns, and in neither.
            others = [("add", x // 2 + 3, y, 1, 1), ("add", x, y // 2 + 3, 1, 1), ("add", 5, 5, 1, 1)]
            for steps in [[far, others[0]], [far, others[1]], [others[2], far], others + [far]]:
                self.assertGreater(len(rectangles(region_of(steps + twice))), 1)
                self.assertIs(error_class_of(region_of, steps + twice + [("shift", dx, dy)]), RegionTooLarge)

    def test_after_each_step(self):
        steps = [("add", STEP - 1, 0, 1, 1), ("scale", 8), ("scale", 8), ("shift", 1, 0), ("shift", -1, 0)]
        self.assertIs(error_class_of(region_of, steps), RegionTooLarge)
        steps = [("add", STEP - 1, 0, 1, 1), ("scale", 8), ("scale", 8), ("shift", 1, 0), ("meet", 0, 0, 0, 0)]
        self.assertIs(error_class_of(region_of, steps), RegionTooLarge)


class TooComplex(unittest.TestCase):
    def test_a_thousand(self):
        self.assertEqual(len(rectangles(region_of(THOUSAND))), 1000)

    def test_a_thousand_and_one(self):
        self.assertIs(error_class_of(region_of, THOUSAND + [ONE_MORE]), RegionTooComplex)

    def test_after_each_step(self):
        self.assertEqual(len(rectangles(region_of(THOUSAND + [("subtract", 0, 0, 1, 1), ONE_MORE]))), 1000)
        steps = THOUSAND + [ONE_MORE, ("subtract", 0, 0, 1, 1)]
        self.assertIs(error_class_of(region_of, steps), RegionTooComplex)

    def test_rectangles_are_counted(self):
        # 99 bands with one span each, which are more than a thousand spans when they are turned.
        self.assertEqual(len(rectangles(region_of(STAIRS))), 99)
        self.assertIs(error_class_of(region_of, STAIRS + [("turn", 0)]), RegionTooComplex)


class BothErrors(unittest.TestCase):
    def test_at_one_step(self):
        steps = STAIRS + [("shift", 0, STEP - 101), ("scale", 8), ("scale", 8)]
        self.assertEqual(region_of(steps)[-1][1], BOUND)
        self.assertIs(error_class_of(region_of, steps + [("turn", -1)]), RegionTooLarge)
        self.assertIs(error_class_of(region_of, steps + [("turn", 0)]), RegionTooComplex)

    def test_at_different_steps(self):
        far = [("shift", STEP, 0), ("scale", 8), ("scale", 8)]
        self.assertIs(error_class_of(region_of, THOUSAND + far), RegionTooLarge)
        self.assertIs(error_class_of(region_of, THOUSAND + [ONE_MORE] + far), RegionTooComplex)
        self.assertIs(error_class_of(region_of, THOUSAND + far + [ONE_MORE]), RegionTooLarge)


if __name__ == "__main__":
    unittest.main()
