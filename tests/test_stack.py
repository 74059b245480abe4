"""Point 43, and the wishes of programs: the stack of windows."""

import unittest

from sillwatch.windows.stack import Placed, Stack
from sillwatch.windows.view import View

FRAME = (1, 2, 30, 40)
OTHER = (5, 6, 70, 80)


class StackTest(unittest.TestCase):
    def setUp(self):
        self.stack = Stack()

    def rows(self):
        return [(placed.slot, placed.window) for placed in self.stack.placed_rows()]

    def fields(self, slot, window):
        placed = self.stack.find(slot, window)
        return placed.slot, placed.window, placed.frame, placed.hidden, placed.maximized, placed.before

    def put(self, *rows, hidden=False):
        for slot, window in rows:
            self.stack.put(Placed(slot, window, FRAME, hidden, False, None), True)


class Fields(unittest.TestCase):
    def test_placed(self):
        placed = Placed(2, 9, FRAME, False, True, OTHER)
        self.assertEqual(
            (placed.slot, placed.window, placed.frame, placed.hidden, placed.maximized, placed.before),
            (2, 9, FRAME, False, True, OTHER),
        )

    def test_view(self):
        view = View([FRAME], {9: 1}, 9, 4, [("a", FRAME, None)])
        self.assertEqual(
            (view.areas, view.own_windows, view.focus, view.grant, view.kept),
            ([FRAME], {9: 1}, 9, 4, [("a", FRAME, None)]),
        )


class Moves(StackTest):
    def test_empty(self):
        self.assertEqual(self.rows(), [])
        self.assertIsNone(self.stack.find(0, 9))
        self.assertEqual(self.stack.own(0), {})

    def test_put(self):
        for window, top in [(1, True), (2, True), (3, False), (4, False), (5, True)]:
            self.stack.put(Placed(0, window, FRAME, False, False, None), top)
        self.assertEqual([row[1] for row in self.rows()], [4, 3, 1, 2, 5])

    def test_each_once(self):
        self.put((0, 1), (0, 2), (1, 1), (0, 1))
        self.assertEqual(self.rows(), [(0, 2), (1, 1), (0, 1)])
        self.stack.put(Placed(0, 1, OTHER, True, False, None), False)
        self.assertEqual(self.rows(), [(0, 1), (0, 2), (1, 1)])
        self.assertEqual(self.fields(0, 1), (0, 1, OTHER, True, False, None))

    def test_the_list_is_new(self):
        self.put((0, 1))
        self.stack.placed_rows().append(None)
        self.stack.own(0)[5] = None
        self.assertEqual(self.rows(), [(0, 1)])
        self.assertEqual(list(self.stack.own(0)), [1])

    def test_same_numbers_in_several_slots(self):
        self.put((0, 9), (1, 9), (2, 9), (1, 8))
        self.assertEqual(self.stack.find(1, 9).slot, 1)
        self.assertIsNone(self.stack.find(3, 9))
        self.assertIsNone(self.stack.find(0, 8))
        self.stack.take(1, 9)
        self.assertEqual(self.rows(), [(0, 9), (2, 9), (1, 8)])
        self.stack.lift(0, 9)
        self.assertEqual(self.rows(), [(2, 9), (1, 8), (0, 9)])
        self.assertEqual({window: placed.slot for window, placed in self.stack.own(1).items()}, {8: 1})

    def test_own(self):
        self.put((0, 5), (1, 9), (0, 3), (0, 4))
        self.assertEqual(list(self.stack.own(0)), [5, 3, 4])
        self.assertEqual([placed.window for placed in self.stack.own(0).values()], [5, 3, 4])
        self.assertEqual(self.stack.own(2), {})

    def test_not_there(self):
        self.put((0, 1), (1, 2))
        for call in [self.stack.take, self.stack.lift]:
            for slot, window in [(0, 2), (1, 1), (3, 9)]:
                call(slot, window)
        self.assertEqual(self.rows(), [(0, 1), (1, 2)])


class Deeds(StackTest):
    def test_map(self):
        self.put((1, 9))
        self.stack.perform(0, ("map", 9, FRAME, False, None, False))
        self.stack.perform(0, ("map", 8, OTHER, True, FRAME, True))
        self.assertEqual(self.rows(), [(0, 9), (1, 9), (0, 8)])
        self.assertEqual(self.fields(0, 9), (0, 9, FRAME, False, False, None))
        self.assertEqual(self.fields(0, 8), (0, 8, OTHER, False, True, FRAME))

    def test_map_of_one_that_is_there(self):
        self.put((0, 1), (0, 9), (0, 2), hidden=True)
        self.stack.perform(0, ("map", 9, OTHER, True, FRAME, True))
        self.assertEqual(self.rows(), [(0, 1), (0, 2), (0, 9)])
        self.assertEqual(self.fields(0, 9), (0, 9, OTHER, False, True, FRAME))
        self.stack.perform(0, ("map", 9, FRAME, False, None, False))
        self.assertEqual(self.rows(), [(0, 9), (0, 1), (0, 2)])

    def test_unmap(self):
        self.put((0, 1), (1, 1), (0, 2))
        self.stack.perform(0, ("unmap", 1))
        self.assertEqual(self.rows(), [(1, 1), (0, 2)])

    def test_frame(self):
        self.put((0, 1), (1, 1), (0, 2))
        self.stack.perform(1, ("frame", 1, OTHER, True, FRAME))
        self.assertEqual(self.rows(), [(0, 1), (1, 1), (0, 2)])
        self.assertEqual(self.fields(1, 1), (1, 1, OTHER, False, True, FRAME))
        self.assertEqual(self.fields(0, 1), (0, 1, FRAME, False, False, None))
        self.stack.perform(1, ("frame", 1, FRAME, False, None))
        self.assertEqual(self.fields(1, 1), (1, 1, FRAME, False, False, None))

    def test_frame_of_a_hidden_one(self):
        self.put((0, 1), hidden=True)
        self.stack.perform(0, ("frame", 1, OTHER, False, None))
        self.assertEqual(self.fields(0, 1), (0, 1, OTHER, True, False, None))

    def test_what_was_put_stays(self):
        placed = Placed(0, 1, FRAME, False, False, None)
        self.stack.put(placed, True)
        self.stack.perform(0, ("frame", 1, OTHER, True, FRAME))
        self.assertEqual((placed.frame, placed.maximized, placed.before), (FRAME, False, None))

    def test_raise(self):
        self.put((0, 1), (1, 1), (0, 2))
        self.stack.perform(0, ("raise", 1))
        self.assertEqual(self.rows(), [(1, 1), (0, 2), (0, 1)])
        self.stack.perform(0, ("raise", 1))
        self.assertEqual(self.rows(), [(1, 1), (0, 2), (0, 1)])

    def test_raise_of_a_hidden_one(self):
        self.put((0, 1), hidden=True)
        self.put((0, 2))
        self.stack.perform(0, ("raise", 1))
        self.assertEqual(self.rows(), [(0, 2), (0, 1)])
        self.assertIs(self.stack.find(0, 1).hidden, True)

    def test_windows_that_are_not_there(self):
        self.put((0, 1), (1, 2))
        for deed in [("unmap", 2), ("frame", 2, OTHER, True, FRAME), ("raise", 2), ("raise", 3)]:
            self.stack.perform(0, deed)
        self.assertEqual(self.rows(), [(0, 1), (1, 2)])
        self.assertEqual(self.fields(1, 2), (1, 2, FRAME, False, False, None))

    def test_other_wishes(self):
        self.put((0, 1), (0, 2))
        for deed in [
            ("spend",), ("hide", 1), ("unhide", 1), ("lift", 1), ("give", [], True), ("close", 1), ("unsend", "a"),
            ("send", "1", []), ("drag", []), ("ask", 1, 2, 3, 4, 5, 6),
        ]:
            self.stack.perform(0, deed)
        self.assertEqual(self.rows(), [(0, 1), (0, 2)])
        self.assertEqual(self.fields(0, 1), (0, 1, FRAME, False, False, None))


if __name__ == "__main__":
    unittest.main()
