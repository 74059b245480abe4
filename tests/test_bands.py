"""Points 20 to 23: the one form of a region, its rectangles and the operations."""

import copy
import itertools
import random
import unittest

from sillwatch.regions.bands import (
    common, has_square, mirrored, rectangle_region, rectangles, scaled, shifted, turned, united, united_all, without,
)

FAR = 2 ** 24


def form_of(squares):
    """Return the region of a set of squares, built row by row."""
    rows = {}
    for x, y in squares:
        rows.setdefault(y, []).append(x)
    region = []
    for y in sorted(rows):
        spans = []
        for x in sorted(rows[y]):
            if spans and spans[-1][1] == x:
                spans[-1] = (spans[-1][0], x + 1)
            else:
                spans.append((x, x + 1))
        if region and region[-1][1] == y and region[-1][2] == tuple(spans):
            region[-1] = (region[-1][0], y + 1, tuple(spans))
        else:
            region.append((y, y + 1, tuple(spans)))
    return region


def squares_of(region):
    return {(x, y) for top, bottom, spans in region for y in range(top, bottom) for a, b in spans for x in range(a, b)}


def grids(width, height, x=0, y=0):
    """Yield each set of squares of a small grid."""
    places = [(x + a, y + b) for b in range(height) for a in range(width)]
    for bits in range(2 ** len(places)):
        yield {place for at, place in enumerate(places) if bits >> at & 1}


def some_squares(source, side, share):
    return {(x, y) for x in range(-side, side) for y in range(-side, side) if source.random() < share}


class Rectangles(unittest.TestCase):
    def test_a_rectangle(self):
        self.assertEqual(rectangle_region(3, 5, 2, 4), [(5, 9, ((3, 5),))])
        self.assertEqual(rectangle_region(-3, -5, 1, 1), [(-5, -4, ((-3, -2),))])

    def test_without_squares(self):
        for width, height in [(0, 0), (0, 5), (5, 0), (-1, 5), (5, -1), (-1, -1), (-5, 0)]:
            self.assertEqual(rectangle_region(3, 5, width, height), [])

    def test_far_places(self):
        self.assertEqual(rectangle_region(-FAR, FAR, FAR, FAR), [(FAR, 2 * FAR, ((-FAR, 0),))])
        a, b = rectangle_region(-FAR, -FAR, 2 * FAR, 2 * FAR), rectangle_region(FAR, FAR, FAR, FAR)
        self.assertEqual(united(a, b), [(-FAR, FAR, ((-FAR, FAR),)), (FAR, 2 * FAR, ((FAR, 2 * FAR),))])
        self.assertEqual(common(a, b), [])
        self.assertEqual(without(a, rectangle_region(0, 0, FAR, FAR)), [
            (-FAR, 0, ((-FAR, FAR),)), (0, FAR, ((-FAR, 0),)),
        ])

    def test_order(self):
        region = [(0, 2, ((0, 1), (4, 6))), (2, 3, ((-5, 0), (1, 2), (3, 9))), (7, 9, ((1, 2),))]
        before = copy.deepcopy(region)
        expected = [(0, 0, 1, 2), (4, 0, 2, 2), (-5, 2, 5, 1), (1, 2, 1, 1), (3, 2, 6, 1), (1, 7, 1, 2)]
        self.assertEqual(rectangles(region), expected)
        rectangles(region).append(1)
        self.assertEqual(region, before)
        self.assertEqual(rectangles([]), [])

    def test_each_square_in_one_of_them(self):
        for squares in grids(3, 3):
            found = []
            for x, y, width, height in rectangles(form_of(squares)):
                self.assertTrue(width > 0 and height > 0)
                found += [(a, b) for a in range(x, x + width) for b in range(y, y + height)]
            self.assertEqual(sorted(found), sorted(squares))

    def test_has_square(self):
        for squares in grids(3, 3):
            region = form_of(squares)
            before = copy.deepcopy(region)
            for x, y in itertools.product(range(-1, 4), range(-1, 4)):
                self.assertIs(has_square(region, x, y), (x, y) in squares)
            self.assertEqual(region, before)

    def test_the_example(self):
        region = without(rectangle_region(0, 0, 3, 2), rectangle_region(1, 0, 1, 1))
        self.assertEqual(rectangles(region), [(0, 0, 1, 1), (2, 0, 1, 1), (0, 1, 3, 1)])


class TwoRegions(unittest.TestCase):
    def check(self, first, second):
        """Check all three operations square by square."""
        a, b = form_of(first), form_of(second)
        before = copy.deepcopy((a, b))
        self.assertEqual(united(a, b), form_of(first | second))
        self.assertEqual(common(a, b), form_of(first & second))
        self.assertEqual(without(a, b), form_of(first - second))
        self.assertEqual((a, b), before)

    def test_small_grids(self):
        for first in grids(3, 2):
            for second in grids(3, 2):
                self.check(first, second)

    def test_shifted_grids(self):
        for first in grids(2, 3):
            for second in grids(2, 3, 1, -2):
                self.check(first, second)

    def test_larger_regions(self):
        source = random.Random(21)
        for _ in range(150):
            side = source.choice([3, 5, 8])
            shares = [source.choice([0.1, 0.5, 0.9]), source.choice([0.1, 0.5, 0.9])]
            self.check(some_squares(source, side, shares[0]), some_squares(source, side, shares[1]))

    def test_bands_that_touch(self):
        upper, lower = rectangle_region(1, 0, 3, 2), rectangle_region(1, 2, 3, 5)
        self.assertEqual(united(upper, lower), [(0, 7, ((1, 4),))])
        self.assertEqual(united(lower, upper), [(0, 7, ((1, 4),))])
        other = rectangle_region(1, 2, 2, 5)
        self.assertEqual(united(upper, other), [(0, 2, ((1, 4),)), (2, 7, ((1, 3),))])

    def test_spans_that_touch(self):
        left, right = rectangle_region(0, 0, 2, 2), rectangle_region(2, 0, 2, 2)
        self.assertEqual(united(left, right), [(0, 2, ((0, 4),))])
        self.assertEqual(united(right, left), [(0, 2, ((0, 4),))])
        apart = rectangle_region(3, 0, 2, 2)
        self.assertEqual(united(left, apart), [(0, 2, ((0, 2), (3, 5)))])
        self.assertEqual(united(apart, left), [(0, 2, ((0, 2), (3, 5)))])

    def test_bands_that_are_apart(self):
        upper, lower = rectangle_region(0, 0, 2, 2), rectangle_region(0, 3, 2, 2)
        self.assertEqual(united(lower, upper), [(0, 2, ((0, 2),)), (3, 5, ((0, 2),))])

    def test_a_hole_comes_and_goes(self):
        whole, hole = rectangle_region(0, 0, 5, 5), rectangle_region(2, 2, 1, 1)
        holed = without(whole, hole)
        self.assertEqual(holed, [(0, 2, ((0, 5),)), (2, 3, ((0, 2), (3, 5))), (3, 5, ((0, 5),))])
        self.assertEqual(united(holed, hole), whole)
        self.assertEqual(common(holed, hole), [])
        self.assertEqual(without(hole, whole), [])

    def test_the_empty_region(self):
        region = [(0, 2, ((0, 1), (4, 6)))]
        self.assertEqual(united([], []), [])
        self.assertEqual(united(region, []), region)
        self.assertEqual(united([], region), region)
        self.assertEqual(common(region, []), [])
        self.assertEqual(common([], region), [])
        self.assertEqual(without(region, []), region)
        self.assertEqual(without([], region), [])

    def test_the_same_squares_give_the_same_list(self):
        source = random.Random(5)
        for _ in range(60):
            squares = sorted(some_squares(source, 3, 0.6))
            source.shuffle(squares)
            region = []
            for x, y in squares:
                region = united(region, rectangle_region(x, y, 1, 1))
            self.assertEqual(region, form_of(set(squares)))
            other = rectangle_region(-3, -3, 6, 6)
            for x, y in itertools.product(range(-3, 3), range(-3, 3)):
                if (x, y) not in set(squares):
                    other = without(other, rectangle_region(x, y, 1, 1))
            self.assertEqual(other, region)

    def test_lists_are_new(self):
        region = [(0, 2, ((0, 1), (4, 6)))]
        before = copy.deepcopy(region)
        for made in [
            united(region, []), united([], region), united(region, region), common(region, region),
            without(region, []), shifted(region, 0, 0), scaled(region, 1), turned(region, 3), mirrored(region, 3),
        ]:
            made.append((90, 91, ((0, 1),)))
        self.assertEqual(region, before)


class SeveralRegions(unittest.TestCase):
    def check(self, *groups):
        regions = [form_of(squares) for squares in groups]
        before = copy.deepcopy(regions)
        self.assertEqual(united_all(regions), form_of(set().union(*groups)))
        self.assertEqual(regions, before)

    def test_none_and_one(self):
        self.check()
        self.check(set())
        self.check(set(), set())
        self.check({(1, 2), (1, 3), (4, 3)})
        self.check(set(), {(1, 2), (3, 2)}, set())

    def test_small_grids(self):
        for first, second in itertools.product(grids(2, 2), grids(2, 2, 1, 1)):
            self.check(first, second, {(0, 2)})

    def test_larger_regions(self):
        source = random.Random(23)
        for _ in range(200):
            self.check(*[some_squares(source, source.randint(1, 4), 0.4) for _ in range(source.randint(0, 6))])

    def test_bands_that_begin_and_end_together(self):
        one, two, three = rectangle_region(0, 0, 2, 4), rectangle_region(4, 0, 2, 4), rectangle_region(2, 0, 2, 4)
        self.assertEqual(united_all([one, two]), [(0, 4, ((0, 2), (4, 6)))])
        self.assertEqual(united_all([one, two, three]), [(0, 4, ((0, 6),))])
        self.assertEqual(united_all([one, rectangle_region(0, 4, 2, 4)]), [(0, 8, ((0, 2),))])
        self.assertEqual(united_all([one, rectangle_region(0, 5, 2, 4)]), [(0, 4, ((0, 2),)), (5, 9, ((0, 2),))])

    def test_one_within_another(self):
        large, small = rectangle_region(0, 0, 9, 9), rectangle_region(3, 3, 2, 2)
        self.assertEqual(united_all([large, small]), large)
        self.assertEqual(united_all([small, large, small]), large)

    def test_the_list_is_new(self):
        region = rectangle_region(0, 0, 2, 2)
        united_all([region]).append(1)
        self.assertEqual(region, rectangle_region(0, 0, 2, 2))


class OneRegion(unittest.TestCase):
    def check(self, squares):
        region = form_of(squares)
        before = copy.deepcopy(region)
        for dx, dy in [(0, 0), (3, 0), (0, -2), (-7, 5)]:
            self.assertEqual(shifted(region, dx, dy), form_of({(x + dx, y + dy) for x, y in squares}))
        for n in [1, 2, 3]:
            larger = {(n * x + a, n * y + b) for x, y in squares for a in range(n) for b in range(n)}
            self.assertEqual(scaled(region, n), form_of(larger))
        for length in [-3, 0, 1, 2, 5]:
            self.assertEqual(turned(region, length), form_of({(length - 1 - y, x) for x, y in squares}))
            self.assertEqual(mirrored(region, length), form_of({(length - 1 - x, y) for x, y in squares}))
        self.assertEqual(region, before)

    def test_small_grids(self):
        for squares in grids(3, 3):
            self.check(squares)
        for squares in grids(2, 4, -1, -2):
            self.check(squares)

    def test_larger_regions(self):
        source = random.Random(23)
        for _ in range(60):
            self.check(some_squares(source, source.choice([4, 7]), source.choice([0.2, 0.5, 0.9])))

    def test_four_quarters(self):
        source = random.Random(24)
        for _ in range(20):
            region = form_of(some_squares(source, 5, 0.5))
            self.assertEqual(turned(turned(turned(turned(region, 7), 9), 7), 9), region)
            self.assertEqual(mirrored(mirrored(region, 9), 9), region)

    def test_the_empty_region(self):
        self.assertEqual(shifted([], 3, 4), [])
        self.assertEqual(scaled([], 3), [])
        self.assertEqual(turned([], 3), [])
        self.assertEqual(mirrored([], 3), [])

    def test_far_places(self):
        region = rectangle_region(-FAR, FAR, FAR, 2 * FAR)
        self.assertEqual(shifted(region, FAR, -FAR), [(0, 2 * FAR, ((0, FAR),))])
        self.assertEqual(scaled(region, 8), [(8 * FAR, 24 * FAR, ((-8 * FAR, 0),))])
        self.assertEqual(turned(region, 5), [(-FAR, 0, ((5 - 3 * FAR, 5 - FAR),))])
        self.assertEqual(mirrored(region, 5), [(FAR, 3 * FAR, ((5, 5 + FAR),))])


if __name__ == "__main__":
    unittest.main()
