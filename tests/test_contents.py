"""Points 31 to 34: contents, changes, and how they are laid over each other."""

import copy
import unittest

from sillwatch.surfaces.contents import (
    Change, Content, changed_content, content_size, empty_content, laid_over, scale_fits,
)
from sillwatch.surfaces.pictures import Picture

RED = Picture(2, 1, [1, 2])
BLUE = Picture(1, 3, [7, 8, 9])
BAND = [(0, 2, ((0, 4),))]


def nothing(order=(5,), places=None, callbacks=()):
    """Return a change that says only what each commit says: the order and the places."""
    return Change((False, None), (False, None), None, None, list(order), dict(places or {}), list(callbacks))


def fields(thing):
    rows = {}
    for name, value in vars(thing).items():
        rows[name] = tuple(plain(part) for part in value) if isinstance(value, tuple) else plain(value)
    return rows


def plain(value):
    return (value.width, value.height, list(value.pixels)) if isinstance(value, Picture) else copy.deepcopy(value)


class Fields(unittest.TestCase):
    def test_content(self):
        content = Content(RED, 3, 2, BAND, [5, 6], {6: (1, 2)})
        self.assertEqual(
            (content.picture, content.turn, content.scale, content.hears, content.order, content.places),
            (RED, 3, 2, BAND, [5, 6], {6: (1, 2)}),
        )

    def test_change(self):
        change = Change((True, RED), (True, None), 3, 2, [5, 6], {6: (1, 2)}, [9])
        self.assertEqual(
            (change.attached, change.hearing, change.turn, change.scale, change.order, change.places, change.callbacks),
            ((True, RED), (True, None), 3, 2, [5, 6], {6: (1, 2)}, [9]),
        )

    def test_empty(self):
        content = empty_content(5)
        self.assertEqual(
            fields(content),
            {"picture": None, "turn": 0, "scale": 1, "hears": None, "order": [5], "places": {}},
        )
        content.order.append(6)
        content.places[6] = (0, 0)
        self.assertEqual((empty_content(5).order, empty_content(5).places), ([5], {}))


class Laying(unittest.TestCase):
    def setUp(self):
        self.all = Change((True, RED), (True, BAND), 3, 2, [5, 6], {6: (1, 2)}, [90, 91])
        self.none = Change((True, None), (True, None), 0, 1, [6, 5], {6: (0, 0)}, [92])
        self.some = Change((False, None), (True, BAND), None, 4, [5], {}, [])

    def lay(self, first, second):
        before = (None if first is None else fields(first), fields(second))
        change = laid_over(first, second)
        self.assertEqual((None if first is None else fields(first), fields(second)), before)
        return fields(change)

    def test_over_nothing(self):
        for change in [self.all, self.none, self.some, nothing()]:
            self.assertEqual(self.lay(None, change), fields(change))

    def test_all_over_all(self):
        self.assertEqual(self.lay(self.all, self.none), dict(fields(self.none), callbacks=[90, 91, 92]))
        self.assertEqual(self.lay(self.none, self.all), dict(fields(self.all), callbacks=[92, 90, 91]))

    def test_some_over_all(self):
        expected = dict(fields(self.all), scale=4, order=[5], places={}, callbacks=[90, 91])
        self.assertEqual(self.lay(self.all, self.some), expected)
        expected = dict(fields(self.none), hearing=(True, BAND), scale=4, order=[5], places={}, callbacks=[92])
        self.assertEqual(self.lay(self.none, self.some), expected)

    def test_all_over_some(self):
        self.assertEqual(self.lay(self.some, self.all), fields(self.all))
        self.assertEqual(self.lay(self.some, self.none), fields(self.none))

    def test_nothing_over_each(self):
        for change in [self.all, self.none, self.some]:
            expected = dict(fields(change), order=[5, 7], places={7: (3, 3)})
            expected["callbacks"] = expected["callbacks"] + [95]
            self.assertEqual(self.lay(change, nothing([5, 7], {7: (3, 3)}, [95])), expected)

    def test_each_over_nothing_said(self):
        for change in [self.all, self.none, self.some]:
            expected = dict(fields(change))
            expected["callbacks"] = [95] + expected["callbacks"]
            self.assertEqual(self.lay(nothing([5, 7], {7: (3, 3)}, [95]), change), expected)

    def test_callbacks_stay_in_order(self):
        first, second, third = nothing(callbacks=[3, 1]), nothing(callbacks=[2]), nothing(callbacks=[9, 0])
        self.assertEqual(laid_over(laid_over(first, second), third).callbacks, [3, 1, 2, 9, 0])
        self.assertEqual(laid_over(first, laid_over(second, third)).callbacks, [3, 1, 2, 9, 0])

    def test_lists_are_new(self):
        change = laid_over(self.all, self.some)
        change.order.append(44)
        change.places[44] = (0, 0)
        change.callbacks.append(45)
        self.assertEqual((self.some.order, self.some.places, self.some.callbacks), ([5], {}, []))
        self.assertEqual(self.all.callbacks, [90, 91])
        change = laid_over(None, self.all)
        change.order.append(44)
        change.places[44] = (0, 0)
        change.callbacks.append(45)
        self.assertEqual((self.all.order, self.all.places, self.all.callbacks), ([5, 6], {6: (1, 2)}, [90, 91]))


class Changing(unittest.TestCase):
    def setUp(self):
        self.content = Content(RED, 3, 2, BAND, [6, 5], {6: (1, 2)})

    def change(self, change):
        before = (fields(self.content), fields(change))
        content = changed_content(self.content, change)
        self.assertEqual((fields(self.content), fields(change)), before)
        return fields(content)

    def said(self, **values):
        """Return a change that says one thing more than the present order and places."""
        change = nothing([6, 5], {6: (1, 2)})
        for name, value in values.items():
            setattr(change, name, value)
        return change

    def test_nothing_said(self):
        self.assertEqual(self.change(self.said(callbacks=[9])), fields(self.content))

    def test_each_single_thing(self):
        for said, after in [
            ({"attached": (True, BLUE)}, {"picture": plain(BLUE)}),
            ({"attached": (True, None)}, {"picture": None}),
            ({"hearing": (True, [])}, {"hears": []}),
            ({"hearing": (True, None)}, {"hears": None}),
            ({"turn": 0}, {"turn": 0}),
            ({"turn": 7}, {"turn": 7}),
            ({"scale": 1}, {"scale": 1}),
            ({"order": [5, 6]}, {"order": [5, 6]}),
            ({"places": {6: (-4, 0)}}, {"places": {6: (-4, 0)}}),
        ]:
            with self.subTest(said=said):
                self.assertEqual(self.change(self.said(**said)), dict(fields(self.content), **after))

    def test_all(self):
        change = Change((True, BLUE), (True, []), 1, 4, [5], {}, [9])
        self.assertEqual(
            self.change(change),
            {"picture": plain(BLUE), "turn": 1, "scale": 4, "hears": [], "order": [5], "places": {}},
        )

    def test_lists_are_new(self):
        change = self.said()
        content = changed_content(self.content, change)
        content.order.append(44)
        content.places[44] = (0, 0)
        self.assertEqual((change.order, change.places), ([6, 5], {6: (1, 2)}))
        self.assertEqual((self.content.order, self.content.places), ([6, 5], {6: (1, 2)}))

    def test_laid_over_is_one_after_the_other(self):
        changes = [
            Change((True, BLUE), (True, None), None, 4, [5], {}, []), nothing([6, 5], {6: (0, 0)}),
            Change((False, None), (True, []), 2, None, [5, 6], {6: (3, 3)}, []),
            Change((True, None), (False, None), 5, 1, [5], {}, []),
        ]
        for first in changes:
            for second in changes:
                together = changed_content(self.content, laid_over(first, second))
                apart = changed_content(changed_content(self.content, first), second)
                self.assertEqual(fields(together), fields(apart))


class Sizes(unittest.TestCase):
    def test_without_a_picture(self):
        for turn in range(8):
            for scale in range(1, 5):
                content = Content(None, turn, scale, None, [5], {})
                self.assertIsNone(content_size(content))
                self.assertIs(scale_fits(content), True)

    def test_turns_and_scales(self):
        for turn in range(8):
            for scale in range(1, 5):
                content = Content(Picture(24, 12, [0] * 288), turn, scale, None, [5], {})
                size = (24 // scale, 12 // scale)
                self.assertEqual(content_size(content), size if turn in (0, 2, 4, 6) else (size[1], size[0]))
                self.assertIs(scale_fits(content), True)

    def test_no_multiples(self):
        for turn in range(8):
            for scale in range(1, 5):
                for width in range(1, 10):
                    for height in range(1, 10):
                        content = Content(Picture(width, height, [0] * (width * height)), turn, scale, None, [5], {})
                        fits = width % scale == 0 and height % scale == 0
                        self.assertIs(scale_fits(content), fits)


if __name__ == "__main__":
    unittest.main()
