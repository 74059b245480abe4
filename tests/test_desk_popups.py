"""Points 48, 49 and 52 to 55: popups."""

import unittest

from sillwatch.objects.replies import Reply
from tests.program import WINDOWS, Program, at

AREA = (0, 0, 400, 300)
NEXT = (400, 0, 200, 300)
# A place that is moved into the room as far as it may be.
BIG = (0, 0, 0, 0, -1, -1, 1, 1, 300, 200, 0, 0, 60)


class PopupsTest(unittest.TestCase):
    def setUp(self):
        self.program = Program([AREA, NEXT])
        # Its inside has its corner at (2, 10).
        self.window, self.surface = self.program.mapped(60, 50)

    def popup(self, parent=None, positioner=at(5, 6, 10, 8), granted=False):
        """Return the popup and the surface of a new popup that is not shown yet."""
        make = self.program.granted_popup if granted else self.program.popup
        return make(self.window if parent is None else parent, positioner)

    def shown(self, parent=None, positioner=at(5, 6, 10, 8), granted=False):
        """Return a new popup that is shown, and its surface."""
        number, surface = self.popup(parent, positioner, granted)
        self.assertEqual([row[:2] for row in self.program.show(surface, 1, 1)], [(number, "placed")])
        return number, surface

    def place(self, popup, positioner):
        return self.program.ask(popup, "popup", "place", *positioner)

    def numbers(self):
        return [row[0] for row in self.program.popup_rows(self.window)]

    def granted(self):
        """Return the shown popups with a grant."""
        return [row[0] for row in self.program.popup_rows(self.window) if row[3]]

    def dismiss_granted(self):
        reply = Reply()
        self.program.desk.dismiss_granted(reply)
        self.assertEqual((reply.wishes, reply.ended), ([], []))
        return self.program.events(reply)


class Making(PopupsTest):
    def test_made(self):
        number, surface = self.popup()
        self.assertEqual(self.program.wishes, [])
        self.assertIs(self.program.painting.may_claim(surface, "popup"), False)
        self.assertEqual(self.numbers(), [])
        self.assertEqual(len(self.program.desk.window_rows()), 1)

    def test_a_role(self):
        _, taken = self.popup()
        sub, inner = self.program.inner(self.surface)
        for surface in [self.surface, taken, inner]:
            made = self.program.popup(self.window, at(0, 0, 1, 1), 0, surface)
            self.assertEqual(made, (WINDOWS, 1, "surface has a role"))
        self.program.ask(sub, "sub", "destroy")
        made = self.program.popup(self.window, at(0, 0, 1, 1), 0, inner)
        self.assertEqual(made, (WINDOWS, 1, "surface has a role"))

    def test_again_of_the_same_surface(self):
        number, surface = self.popup()
        self.program.ask(number, "popup", "destroy")
        self.assertIs(self.program.painting.may_claim(surface, "popup"), True)
        self.assertEqual(self.program.window(surface), (WINDOWS, 1, "surface has a role"))
        again, _ = self.program.popup(self.window, at(0, 0, 1, 1), 0, surface)
        self.assertEqual(self.program.show(surface, 1, 1), [(again, "placed", 0, 0, 1, 1)])

    def test_how_many(self):
        pairs = [self.popup() for _ in range(16)]
        surface = self.program.surface()
        many = (WINDOWS, 2, "too many windows")
        self.assertEqual(self.program.popup(self.window, at(0, 0, 1, 1), 0, surface), many)
        self.assertIs(self.program.painting.may_claim(surface, "popup"), True)
        self.assertIsInstance(self.program.window()[0], int)
        self.program.ask(pairs[5][0], "popup", "destroy")
        self.assertEqual(self.program.popup(self.window, at(0, 0, 1, 1), 0, surface)[1], surface)

    def test_windows_and_popups_count_apart(self):
        for _ in range(15):
            self.program.window()
        self.assertEqual(self.program.window(), (WINDOWS, 2, "too many windows"))
        self.assertIsInstance(self.popup()[0], int)

    def test_order_of_faults(self):
        bad = at(0, 0, 0, 1)
        surface = self.program.surface()
        self.assertEqual(self.program.popup(self.window, bad, 0, self.surface), (WINDOWS, 1, "surface has a role"))
        self.assertEqual(self.program.popup(self.window, bad, 0, surface), (WINDOWS, 5, "bad size"))
        self.assertIs(self.program.painting.may_claim(surface, "window"), True)
        for _ in range(16):
            self.popup()
        self.assertEqual(self.program.popup(self.window, bad, 0, surface), (WINDOWS, 2, "too many windows"))

    def bad_positioners(self):
        good = [5, 6, 7, 8, 0, 0, 0, 0, 9, 10, 1, 2, 0]
        for at_place, values in [
            (0, (-4097, 4097, 2 ** 31 - 1)), (1, (-4097, 4097, -2 ** 31)), (2, (-1, 4097)), (3, (-1, 4097)),
            (8, (0, 4097, 2 ** 32 - 1)), (9, (0, 4097, 2 ** 32 - 1)), (10, (-4097, 4097)), (11, (-4097, 4097)),
        ]:
            for value in values:
                yield good[:at_place] + [value] + good[at_place + 1:]

    def good_positioners(self):
        good = [5, 6, 7, 8, 0, 0, 0, 0, 9, 10, 1, 2, 0]
        for at_place, values in [
            (0, (-4096, 4096)), (1, (-4096, 4096)), (2, (0, 4096)), (3, (0, 4096)), (4, (-2 ** 31, 2 ** 31 - 1)),
            (7, (-2 ** 31, 2 ** 31 - 1)), (8, (1, 4096)), (9, (1, 4096)), (10, (-4096, 4096)), (11, (-4096, 4096)),
            (12, (0, 2 ** 32 - 1)),
        ]:
            for value in values:
                yield good[:at_place] + [value] + good[at_place + 1:]

    def test_sizes(self):
        number, _ = self.popup()
        surface = self.program.surface()
        for positioner in self.bad_positioners():
            self.assertEqual(self.program.popup(self.window, positioner, 0, surface), (WINDOWS, 5, "bad size"))
            self.assertEqual(self.place(number, positioner), (number, 5, "bad size"))
        for positioner in self.good_positioners():
            self.assertEqual(self.place(number, positioner), [])
            made, _ = self.program.popup(self.window, positioner, 0, surface)
            self.program.ask(made, "popup", "destroy")

    def test_the_grant(self):
        for grant, serial, spent in [(7, 7, True), (7, 8, False), (None, 0, False), (None, 7, False), (7, 0, False)]:
            self.program.grant = grant
            number, surface = self.program.popup(self.window, at(1, 1, 1, 1), serial)
            self.assertEqual(self.program.wishes, [("spend",)] if spent else [])
            self.program.show(surface, 1, 1)
            self.assertEqual(number in self.granted(), spent)

    def test_a_fault_spends_nothing(self):
        self.program.grant = 7
        self.assertEqual(self.program.popup(self.window, at(0, 0, 0, 1), 7), (WINDOWS, 5, "bad size"))
        self.assertEqual(self.program.grant, 7)


class Showing(PopupsTest):
    def test_with_a_picture(self):
        number, surface = self.popup()
        self.assertEqual(self.program.commit(surface), [])
        self.assertEqual(self.program.show(surface, 4, 4), [(number, "placed", 5, 6, 10, 8)])
        rows = [(number, surface, (7, 16, 10, 8), False)]
        self.assertEqual(self.program.popup_rows(self.window), rows)
        self.assertEqual(self.program.show(surface, 3, 3), [])
        self.assertEqual(self.program.popup_rows(self.window), rows)
        self.program.popup_rows(self.window).append(1)
        self.assertEqual(self.program.popup_rows(self.window), rows)
        self.assertEqual(self.program.popup_rows(999), [])

    def test_in_the_room(self):
        number, surface = self.popup(positioner=BIG)
        self.assertEqual(self.program.show(surface, 4, 4), [(number, "placed", 0, 0, 60, 50)])
        number, surface = self.popup(positioner=BIG, granted=True)
        self.assertEqual(self.program.show(surface, 4, 4), [(number, "placed", 0, 0, 300, 200)])
        self.program.stack.perform(0, ("frame", self.window, (420, 30, 64, 62), False, None))
        number, surface = self.popup(positioner=BIG, granted=True)
        # The output begins 22 units to the left of the inside and 40 above it, and is 200 wide.
        self.assertEqual(self.program.show(surface, 4, 4), [(number, "placed", -22, 0, 200, 200)])
        number, surface = self.popup(positioner=at(-30, -60, 10, 10, 12))
        self.assertEqual(self.program.show(surface, 4, 4), [(number, "placed", 0, 0, 10, 10)])
        number, surface = self.popup(positioner=at(-30, -60, 10, 10, 12), granted=True)
        self.assertEqual(self.program.show(surface, 4, 4), [(number, "placed", -22, -40, 10, 10)])

    def test_the_room_of_a_popup_of_a_popup(self):
        outer, _ = self.shown(positioner=at(20, 10, 10, 10))
        number, surface = self.popup(outer, at(-100, 100, 10, 10, 12))
        self.assertEqual(self.program.show(surface, 4, 4), [(number, "placed", -20, 30, 10, 10)])
        self.assertEqual(self.program.popup_rows(self.window)[1], (number, surface, (2, 50, 10, 10), False))
        number, surface = self.popup(outer, at(-100, 400, 10, 10, 12), True)
        self.assertEqual(self.program.show(surface, 4, 4), [(number, "placed", -22, 270, 10, 10)])
        self.assertEqual(self.program.popup_rows(self.window)[2], (number, surface, (0, 290, 10, 10), True))

    def test_the_parent_is_not_mapped(self):
        window, surface = self.program.window()
        number, popup_surface = self.popup(window)
        self.assertEqual(self.program.show(popup_surface, 4, 4), [])
        self.program.configure(window, surface)
        self.program.show(surface, 20, 20)
        self.assertEqual(self.program.popup_rows(window), [])
        self.assertEqual(self.program.commit(popup_surface), [(number, "placed", 5, 6, 10, 8)])
        self.assertEqual([row[0] for row in self.program.popup_rows(window)], [number])

    def test_the_parent_is_not_shown(self):
        outer, outer_surface = self.popup()
        inner, inner_surface = self.popup(outer)
        self.assertEqual(self.program.show(inner_surface, 4, 4), [])
        self.program.show(outer_surface, 4, 4)
        self.assertEqual(self.numbers(), [outer])
        self.assertEqual(self.program.commit(inner_surface), [(inner, "placed", 5, 6, 10, 8)])
        self.assertEqual(self.numbers(), [outer, inner])

    def test_a_hidden_window(self):
        self.program.stack.find(0, self.window).hidden = True
        number, surface = self.popup()
        self.assertEqual(self.program.show(surface, 4, 4), [(number, "placed", 5, 6, 10, 8)])

    def test_mapped_as_the_view_tells(self):
        placed = self.program.stack.find(0, self.window)
        number, surface = self.shown()
        other, other_surface = self.popup()
        self.program.stack.take(0, self.window)
        self.assertEqual(self.program.show(other_surface, 4, 4), [])
        self.assertEqual(self.program.popup_rows(self.window), [])
        self.program.stack.put(placed, True)
        self.assertEqual(self.numbers(), [number])

    def test_in_order(self):
        a, _ = self.shown(granted=True)
        b, _ = self.shown()
        c, _ = self.popup()
        d, _ = self.shown(a)
        e, _ = self.shown(granted=True)
        f, _ = self.shown(d, granted=True)
        self.assertEqual(self.numbers(), [b, d, a, e, f])
        self.assertEqual(self.granted(), [a, e, f])

    def test_on_its_window(self):
        window, _ = self.program.mapped(20, 20)
        number, surface = self.shown(window)
        self.assertEqual(self.numbers(), [])
        self.assertEqual(self.program.popup_rows(window), [(number, surface, (24 + 2 + 5, 24 + 10 + 6, 10, 8), False)])

    def test_the_place_moves_with_the_window(self):
        number, surface = self.shown()
        inner, inner_surface = self.shown(number, at(1, 2, 3, 3))
        self.program.stack.perform(0, ("frame", self.window, (100, 100, 20, 28), False, None))
        self.assertEqual(self.program.popup_rows(self.window), [
            (number, surface, (107, 116, 10, 8), False), (inner, inner_surface, (108, 118, 3, 3), False),
        ])


class PlacingAnew(PopupsTest):
    def test_not_shown(self):
        number, surface = self.popup()
        self.assertEqual(self.place(number, at(1, 2, 3, 4)), [])
        self.assertEqual(self.program.show(surface, 1, 1), [(number, "placed", 1, 2, 3, 4)])

    def test_not_shown_with_a_grant(self):
        number, surface = self.popup(granted=True)
        self.assertEqual(self.place(number, at(-1, 2, 3, 4)), [])
        self.assertEqual(self.program.show(surface, 1, 1), [(number, "placed", -1, 2, 3, 4)])
        self.assertEqual(self.granted(), [number])

    def test_shown_with_a_grant(self):
        number, surface = self.shown(granted=True)
        inner, _ = self.shown(number)
        self.assertEqual(self.place(number, at(1, 2, 3, 4)), [])
        self.assertEqual(self.program.popup_rows(self.window)[1], (number, surface, (7, 16, 10, 8), True))
        self.assertEqual(self.numbers(), [inner, number])
        self.dismiss_granted()
        # It was ignored: the old positioner holds.
        self.assertEqual(self.program.commit(surface), [(number, "placed", 5, 6, 10, 8)])

    def test_shown_without_a_grant(self):
        number, surface = self.shown()
        self.assertEqual(self.place(number, at(1, 2, 3, 4)), [(number, "placed", 1, 2, 3, 4)])
        self.assertEqual(self.program.popup_rows(self.window), [(number, surface, (3, 12, 3, 4), False)])
        self.assertEqual(self.place(number, at(1, 2, 3, 4)), [(number, "placed", 1, 2, 3, 4)])

    def test_what_hangs_on_it(self):
        number, _ = self.shown()
        inner, _ = self.shown(number, granted=True)
        inmost, _ = self.shown(inner)
        hidden, hidden_surface = self.popup(inner, granted=True)
        other, _ = self.shown(granted=True)
        self.assertEqual(
            self.place(number, at(1, 2, 3, 4)), [(inmost, "done"), (inner, "done"), (number, "placed", 1, 2, 3, 4)]
        )
        self.assertEqual(self.numbers(), [number, other])

    def test_bad_sizes_first(self):
        number, _ = self.shown(granted=True)
        self.assertEqual(self.place(number, at(1, 2, 0, 4)), (number, 5, "bad size"))
        self.assertEqual(self.granted(), [number])

    def test_of_a_window_that_is_not_in_the_view(self):
        number, surface = self.shown()
        placed = self.program.stack.find(0, self.window)
        self.program.stack.take(0, self.window)
        self.assertEqual(self.place(number, at(1, 2, 3, 4)), [])
        self.program.stack.put(placed, True)
        self.assertEqual(self.numbers(), [number])


class Dismissing(PopupsTest):
    def test_all_with_a_grant(self):
        a, a_surface = self.shown(granted=True)
        b, _ = self.shown(a)
        c, _ = self.shown()
        d, _ = self.shown(c, granted=True)
        e, e_surface = self.popup(granted=True)
        self.assertEqual(self.dismiss_granted(), [(d, "done"), (b, "done"), (a, "done")])
        self.assertEqual(self.numbers(), [c])
        self.assertEqual(self.dismiss_granted(), [])
        # They are shown again without a grant, also the one that was not shown.
        for number, surface in [(a, a_surface), (e, e_surface)]:
            self.assertEqual(self.program.show(surface, 1, 1), [(number, "placed", 5, 6, 10, 8)])
        self.assertEqual((self.numbers(), self.granted()), ([a, c, e], []))

    def test_shown_again_in_the_inside(self):
        number, surface = self.shown(positioner=BIG, granted=True)
        self.assertEqual(self.program.popup_rows(self.window)[0][2], (2, 10, 300, 200))
        self.dismiss_granted()
        self.assertEqual(self.program.commit(surface), [(number, "placed", 0, 0, 60, 50)])

    def test_nothing_to_dismiss(self):
        self.assertEqual(self.dismiss_granted(), [])
        number, _ = self.shown()
        self.assertEqual(self.dismiss_granted(), [])
        self.assertEqual(self.numbers(), [number])

    def test_by_unmapping(self):
        a, a_surface = self.shown()
        b, _ = self.shown(a, granted=True)
        c, c_surface = self.popup(granted=True)
        window, _ = self.program.mapped(20, 20)
        other, _ = self.shown(window, granted=True)
        self.assertEqual(self.program.hide(self.surface), [(b, "done"), (a, "done")])
        self.assertEqual(self.program.wishes, [("unmap", self.window)])
        self.assertEqual([row[0] for row in self.program.popup_rows(window)], [other])
        self.program.configure(self.window, self.surface)
        self.program.show(self.surface, 20, 20)
        self.assertEqual(self.numbers(), [])
        self.assertEqual(self.program.commit(a_surface), [(a, "placed", 5, 6, 10, 8)])
        # It lost its grant although it was not shown.
        self.program.show(c_surface, 1, 1)
        self.assertEqual((self.numbers(), self.granted()), ([a, c], []))

    def test_by_a_window_that_is_destroyed(self):
        a, a_surface = self.shown()
        b, b_surface = self.shown(a)
        self.assertEqual(
            self.program.ask(self.window, "window", "destroy"), [(b, "done"), (a, "done")]
        )
        self.assertEqual(self.program.wishes, [("unmap", self.window)])
        # The parent is gone: never again, also with another window of the same number.
        self.program.ask(WINDOWS, "windows", "window", self.window, self.surface)
        self.program.configure(self.window, self.surface)
        self.program.show(self.surface, 20, 20)
        for surface in [a_surface, b_surface]:
            self.assertEqual(self.program.show(surface, 1, 1), [])
        self.assertEqual(self.numbers(), [])
        self.assertEqual(self.place(a, at(1, 2, 3, 4)), [])
        self.assertEqual(self.program.ask(a, "popup", "destroy"), [])

    def test_by_a_window_that_was_not_mapped(self):
        window, _ = self.program.window()
        self.popup(window)
        self.assertEqual(self.program.ask(window, "window", "destroy"), [])

    def test_by_a_popup_that_is_destroyed(self):
        a, a_surface = self.shown()
        b, b_surface = self.shown(a)
        c, c_surface = self.shown(b)
        d, _ = self.shown()
        self.assertEqual(self.program.ask(a, "popup", "destroy"), [(c, "done"), (b, "done")])
        self.assertEqual((self.program.wishes, self.numbers()), ([], [d]))
        self.assertIs(self.program.painting.may_claim(a_surface, "popup"), True)
        for surface in [b_surface, c_surface]:
            self.assertEqual(self.program.show(surface, 1, 1), [])
        again = self.program.ask(WINDOWS, "windows", "popup", a, a_surface, self.window, *at(1, 1, 1, 1), 0)
        self.assertEqual(again, [])
        self.assertEqual(self.program.commit(a_surface), [(a, "placed", 1, 1, 1, 1)])
        self.assertEqual(self.program.commit(b_surface), [])
        self.assertEqual(self.numbers(), [d, a])

    def test_by_a_popup_without_a_picture(self):
        a, a_surface = self.shown(granted=True)
        b, b_surface = self.shown(a)
        c, _ = self.shown(b, granted=True)
        self.assertEqual(self.program.hide(a_surface), [(c, "done"), (b, "done")])
        self.assertEqual(self.numbers(), [])
        self.assertEqual(self.program.hide(a_surface), [])
        self.assertEqual(self.program.commit(b_surface), [])
        self.assertEqual(self.program.show(a_surface, 1, 1), [(a, "placed", 5, 6, 10, 8)])
        self.assertEqual(self.program.commit(b_surface), [(b, "placed", 5, 6, 10, 8)])
        self.assertEqual((self.numbers(), self.granted()), ([a, b], []))

    def test_a_first_commit_without_a_picture_keeps_the_grant(self):
        number, surface = self.popup(granted=True)
        self.program.commit(surface)
        self.program.hide(surface)
        self.program.show(surface, 1, 1)
        self.assertEqual(self.granted(), [number])

    def test_the_youngest_first(self):
        numbers = [self.shown(granted=True)[0] for _ in range(4)]
        numbers.append(self.shown(numbers[1])[0])
        numbers.append(self.shown(numbers[0])[0])
        self.assertEqual(self.dismiss_granted(), [(number, "done") for number in reversed(numbers)])


class ByRequests(PopupsTest):
    def setUp(self):
        super().setUp()
        self.plain, _ = self.shown()
        self.popup_number, _ = self.shown(granted=True)
        self.other, _ = self.program.mapped(20, 20)
        self.program.grant = 7

    def ask(self, name, *arguments, window=None):
        return self.program.ask(self.window if window is None else window, "window", name, *arguments)

    def test_carried_out(self):
        for name, arguments in [("grow", (70, 70, 7)), ("maximize", (7,))]:
            self.setUp()
            self.assertEqual(self.ask(name, *arguments), [(self.popup_number, "done")])
            self.assertEqual(self.numbers(), [self.plain])

    def test_of_another_window(self):
        for name, arguments in [("grow", (70, 70, 7)), ("maximize", (7,))]:
            self.setUp()
            self.assertEqual(self.ask(name, *arguments, window=self.other), [(self.popup_number, "done")])
            self.assertEqual(self.numbers(), [self.plain])

    def test_maximize_also_if_the_frame_stays(self):
        self.program.areas = [(0, 0, 19, 27)]
        self.assertEqual(self.ask("maximize", 7), [(self.popup_number, "done")])
        self.assertEqual(self.program.wishes, [("spend",)])

    def test_restore(self):
        self.program.stack.perform(0, ("frame", self.window, AREA, True, (0, 0, 64, 62)))
        self.assertEqual(self.ask("restore"), [(self.popup_number, "done")])

    def test_not_carried_out(self):
        for name, arguments in [("grow", (70, 70, 8)), ("maximize", (8,)), ("restore", ())]:
            self.assertEqual(self.ask(name, *arguments), [])
        self.program.stack.perform(0, ("frame", self.window, AREA, True, (0, 0, 64, 62)))
        for name, arguments in [("grow", (70, 70, 7)), ("maximize", (7,))]:
            self.assertEqual(self.ask(name, *arguments), [])
        self.assertEqual(self.granted(), [self.popup_number])

    def test_others(self):
        for name, arguments in [
            ("smaller", (20, 20)), ("raise", (7,)), ("title", ("a",)), ("name", ("a",)), ("ack", (1,)),
            ("map_with", (7,)), ("least", (1, 1)), ("largest", (1, 1)),
        ]:
            self.assertEqual(self.ask(name, *arguments), [])
        self.assertEqual(self.granted(), [self.popup_number])


if __name__ == "__main__":
    unittest.main()
