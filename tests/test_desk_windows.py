"""Points 42 to 51: windows, what they ask for, and what is told of them."""

import unittest

from sillwatch.objects.replies import Reply
from sillwatch.windows.desk import Desk
from tests.program import WINDOWS, Program

AREA = (0, 0, 400, 300)
TOP = 2 ** 32 - 1


class WindowsTest(unittest.TestCase):
    def setUp(self):
        self.program = Program([AREA])

    def ask(self, window, name, *arguments):
        return self.program.ask(window, "window", name, *arguments)

    def wishes(self, window, name, *arguments):
        """Return the wishes of a request that tells nothing."""
        self.assertEqual(self.ask(window, name, *arguments), [])
        return self.program.wishes

    def placed(self, window):
        placed = self.program.stack.find(0, window)
        return None if placed is None else (placed.frame, placed.hidden, placed.maximized, placed.before)

    def stacked(self):
        return [placed.window for placed in self.program.stack.placed_rows()]


class Making(WindowsTest):
    def test_rows(self):
        self.assertEqual(self.program.desk.window_rows(), [])
        first, a = self.program.window()
        second, b = self.program.window()
        self.ask(second, "title", "a title")
        self.ask(second, "name", "a name")
        self.ask(first, "title", "another")
        rows = [(first, a, "another", ""), (second, b, "a title", "a name")]
        self.assertEqual(self.program.desk.window_rows(), rows)
        self.program.desk.window_rows().append(1)
        self.assertEqual(self.program.desk.window_rows(), rows)
        self.assertIs(self.program.painting.may_claim(a, "window"), False)
        self.assertEqual(self.program.wishes, [])

    def test_a_role(self):
        _, surface = self.program.window()
        other = self.program.surface()
        self.program.painting.claim(other, "popup")
        sub, inner = self.program.inner(other)
        for taken in [surface, other, inner]:
            self.assertEqual(self.program.window(taken), (WINDOWS, 1, "surface has a role"))
        self.program.painting.release(other)
        self.program.ask(sub, "sub", "destroy")
        for taken in [surface, other, inner]:
            self.assertEqual(self.program.window(taken), (WINDOWS, 1, "surface has a role"))
        self.assertEqual(len(self.program.desk.window_rows()), 1)

    def test_again_of_the_same_surface(self):
        window, surface = self.program.window()
        self.assertEqual(self.program.desk.surface_of(window), surface)
        self.ask(window, "destroy")
        self.assertIsNone(self.program.desk.surface_of(window))
        self.assertEqual(self.program.desk.window_rows(), [])
        again, _ = self.program.window(surface)
        self.assertEqual(self.program.desk.window_rows(), [(again, surface, "", "")])

    def test_how_many(self):
        pairs = [self.program.window() for _ in range(16)]
        surface = self.program.surface()
        self.assertEqual(self.program.window(surface), (WINDOWS, 2, "too many windows"))
        self.assertIs(self.program.painting.may_claim(surface, "window"), True)
        self.assertEqual(self.program.window(pairs[0][1]), (WINDOWS, 1, "surface has a role"))
        self.ask(pairs[3][0], "destroy")
        self.assertEqual(self.program.window(surface)[1], surface)

    def test_programs_are_apart(self):
        self.program.window()
        self.assertEqual(Desk().window_rows(), [])


class Texts(WindowsTest):
    def test_lengths(self):
        window, _ = self.program.window()
        for name in ["title", "name"]:
            for text in ["", "a", "b" * 200]:
                self.assertEqual(self.ask(window, name, text), [])
            self.assertEqual(self.ask(window, name, "c" * 201), (window, 6, "text too long"))
            self.assertEqual(self.ask(window, name, "c" * 1000), (window, 6, "text too long"))
        self.assertEqual(self.program.desk.window_rows()[0][2:], ("b" * 200, "b" * 200))


class Limits(WindowsTest):
    def test_limits(self):
        window, _ = self.program.window()
        limits = self.program.desk.limits_of
        self.assertEqual(limits(window), ((0, 0), (0, 0)))
        self.assertEqual(self.wishes(window, "least", 5, 4096), [])
        self.assertEqual(limits(window), ((5, 4096), (0, 0)))
        self.assertEqual(self.wishes(window, "largest", 4096, 0), [])
        self.assertEqual(limits(window), ((5, 4096), (4096, 0)))
        for name in ["least", "largest"]:
            for width, height in [(4097, 0), (0, 4097), (TOP, TOP)]:
                self.assertEqual(self.ask(window, name, width, height), (window, 5, "bad size"))
        self.assertEqual(limits(window), ((5, 4096), (4096, 0)))


class Mapping(WindowsTest):
    def test_the_first_commit_is_answered(self):
        window, surface = self.program.window()
        self.assertEqual(self.program.commit(surface), [(window, "configure", 1, 0, 0, 0)])
        self.assertEqual(self.program.commit(surface), [])
        self.assertEqual(self.program.hide(surface), [])
        self.assertEqual((self.program.wishes, self.stacked()), ([], []))

    def test_numbers_of_configures(self):
        pairs = [self.program.window() for _ in range(3)]
        for number, (window, surface) in enumerate(reversed(pairs), 1):
            self.assertEqual(self.program.commit(surface), [(window, "configure", number, 0, 0, 0)])

    def test_mapped_by_a_picture(self):
        window, surface = self.program.window()
        self.program.configure(window, surface)
        self.assertEqual(self.program.show(surface, 40, 30), [])
        self.assertEqual(self.program.wishes, [("map", window, (0, 0, 44, 42), False, None, False)])
        self.assertEqual(self.placed(window), ((0, 0, 44, 42), False, False, None))
        self.assertEqual(self.program.show(surface, 50, 60), [])
        self.assertEqual(self.program.wishes, [])
        self.assertEqual(self.placed(window), ((0, 0, 44, 42), False, False, None))

    def test_a_picture_of_before(self):
        surface = self.program.surface()
        self.program.show(surface, 40, 30)
        window, _ = self.program.window(surface)
        self.assertEqual(self.stacked(), [])
        self.assertEqual(self.program.commit(surface), (window, 3, "not configured"))
        self.program.hide(surface)
        self.ask(window, "ack", 1)
        self.program.show(surface, 40, 30)
        self.assertEqual(self.stacked(), [window])

    def test_not_configured(self):
        window, surface = self.program.window()
        self.program.attach(surface, 4, 4)
        self.assertEqual(self.program.commit(surface), (window, 3, "not configured"))
        self.assertEqual((self.program.wishes, self.stacked()), ([], []))
        window, surface = self.program.window()
        self.assertEqual(self.program.commit(surface), [(window, "configure", 1, 0, 0, 0)])
        self.program.attach(surface, 4, 4)
        self.assertEqual(self.program.commit(surface), (window, 3, "not configured"))

    def test_configured_by_its_own_number_alone(self):
        first, a = self.program.window()
        second, b = self.program.window()
        self.program.commit(a)
        self.program.commit(b)
        for number in [0, 2, 3, TOP]:
            self.ask(first, "ack", number)
        self.program.attach(a, 4, 4)
        self.assertEqual(self.program.commit(a), (first, 3, "not configured"))
        self.ask(second, "ack", 2)
        self.assertEqual(self.program.show(b, 4, 4), [])
        self.assertEqual(self.stacked(), [second])

    def test_the_least_number_first(self):
        made = []
        for number in [50, 40]:
            surface = self.program.surface()
            self.program.show(surface, 4, 4)
            self.program.kinds[number] = "window"
            self.program.ask(WINDOWS, "windows", "window", number, surface)
            made.append(surface)
        for surfaces in [made, made[::-1]]:
            reply = Reply()
            with self.assertRaises(ValueError) as caught:
                self.program.desk.committed(surfaces, self.program.painting, self.program.view(), reply)
            self.assertEqual((caught.exception.number, caught.exception.code), (40, 3))
            self.assertEqual((reply.told, reply.wishes), ([], []))

    def test_unmapped_by_a_commit(self):
        window, surface = self.program.mapped()
        self.program.tell_frames()
        self.assertEqual(self.program.hide(surface), [])
        self.assertEqual((self.program.wishes, self.stacked()), ([("unmap", window)], []))
        # The unmapping itself is not answered; the next commit is, and has to be acknowledged again.
        self.assertEqual(self.program.commit(surface), [(window, "configure", 3, 0, 0, 0)])
        for number in [1, 2]:
            self.ask(window, "ack", number)
        self.program.attach(surface, 4, 4)
        self.assertEqual(self.program.commit(surface), (window, 3, "not configured"))

    def test_mapped_again(self):
        window, surface = self.program.mapped()
        self.program.hide(surface)
        self.program.configure(window, surface)
        self.program.show(surface, 40, 30)
        self.assertEqual(self.program.wishes, [("map", window, (24, 24, 44, 42), False, None, False)])
        self.assertEqual(self.program.tell_frames(), [
            (window, "output", 0), (window, "configure", 3, 40, 30, 0),
        ])

    def test_destroyed(self):
        window, surface = self.program.mapped()
        self.assertEqual(self.wishes(window, "destroy"), [("unmap", window)])
        self.assertEqual((self.stacked(), self.program.desk.window_rows()), ([], []))
        self.assertIs(self.program.painting.may_claim(surface, "window"), True)
        self.assertIs(self.program.painting.may_claim(surface, "popup"), False)
        self.assertEqual(self.program.commit(surface), [])
        window, surface = self.program.window()
        self.assertEqual(self.wishes(window, "destroy"), [])
        window, surface = self.program.mapped()
        self.program.hide(surface)
        self.assertEqual(self.wishes(window, "destroy"), [])

    def test_by_what_commits_have_mapped(self):
        # The view of the round may be older than the commits: they alone say what is mapped and unmapped.
        window, surface = self.program.mapped()
        self.program.stack.take(0, window)
        self.assertEqual(self.program.show(surface, 4, 4), [])
        self.assertEqual(self.program.wishes, [])
        self.program.hide(surface)
        self.assertEqual(self.program.wishes, [("unmap", window)])
        window, surface = self.program.mapped()
        self.program.stack.take(0, window)
        self.assertEqual(self.wishes(window, "destroy"), [("unmap", window)])

    def test_surfaces_without_windows(self):
        surface = self.program.surface()
        self.assertEqual(self.program.show(surface, 4, 4), [])
        self.assertEqual(self.program.wishes, [])

    def test_the_bottom_of_the_stack(self):
        windows = [self.program.mapped()[0] for _ in range(3)]
        self.assertEqual(self.stacked(), windows[::-1])

    def test_a_commit_of_a_surface_in_it(self):
        window, surface = self.program.window()
        _, inner = self.program.inner(surface, 4, 4)
        self.assertEqual(self.program.commit(surface), [(window, "configure", 1, 0, 0, 0)])
        self.assertEqual(self.stacked(), [])


class PlacingByTheRule(WindowsTest):
    def test_the_count(self):
        frames = [self.placed(self.program.mapped(20, 16)[0])[0] for _ in range(9)]
        self.assertEqual(frames, [(24 * (at % 8), 24 * (at % 8), 24, 28) for at in range(9)])

    def test_mapped_again_counts_again(self):
        window, surface = self.program.mapped(20, 16)
        for at in range(1, 4):
            self.program.hide(surface)
            self.program.configure(window, surface)
            self.program.show(surface, 20, 16)
            self.assertEqual(self.placed(window)[0], (24 * at, 24 * at, 24, 28))
        self.ask(window, "destroy")
        other, _ = self.program.mapped(20, 16)
        self.assertEqual(self.placed(other)[0], (96, 96, 24, 28))

    def test_windows_that_are_not_mapped_do_not_count(self):
        for _ in range(3):
            self.program.commit(self.program.window()[1])
        self.assertEqual(self.placed(self.program.mapped(20, 16)[0])[0], (0, 0, 24, 28))

    def test_the_first_output(self):
        self.program.areas = [(1000, 2000, 50, 60), AREA]
        self.assertEqual(self.placed(self.program.mapped(20, 100)[0])[0], (1000, 2000, 24, 60))
        self.assertEqual(self.placed(self.program.mapped(10, 10)[0])[0], (1024, 2024, 20, 28))

    def test_the_size_in_units(self):
        window, surface = self.program.window()
        self.program.configure(window, surface)
        self.program.ask(surface, "surface", "scale", 2)
        self.program.ask(surface, "surface", "turn", 1)
        self.program.show(surface, 80, 60)
        self.assertEqual(self.placed(window)[0], (0, 0, 34, 52))


class Serials(WindowsTest):
    def map_with(self, *serials, grant=None):
        """Map a new window above another one with some serials; return the wishes."""
        window, surface = self.program.window()
        self.program.configure(window, surface)
        for serial in serials:
            self.assertEqual(self.wishes(window, "map_with", serial), [])
        self.program.grant = grant
        self.program.show(surface, 4, 4)
        self.wishes_of_map = self.program.wishes
        return window, surface

    def is_top(self, window):
        self.assertEqual(self.wishes_of_map[0][5], self.stacked()[-1] == window)
        self.assertEqual(self.wishes_of_map[1:], [("spend",)] if self.wishes_of_map[0][5] else [])
        return self.wishes_of_map[0][5]

    def setUp(self):
        super().setUp()
        self.program.mapped()

    def test_the_grant(self):
        window, _ = self.map_with(7, grant=7)
        self.assertIs(self.is_top(window), True)
        self.assertIsNone(self.program.grant)

    def test_another_serial(self):
        for serials, grant in [((7,), 8), ((7,), None), ((0,), None), ((), 7), ((), None), ((7, 8), 7), ((0,), 1)]:
            window, _ = self.map_with(*serials, grant=grant)
            self.assertIs(self.is_top(window), False)
            self.assertEqual(self.program.grant, grant)

    def test_the_last_serial(self):
        window, _ = self.map_with(8, 7, grant=7)
        self.assertIs(self.is_top(window), True)

    def again(self, window, surface, grant):
        self.program.configure(window, surface)
        self.program.grant = grant
        self.program.show(surface, 4, 4)
        self.wishes_of_map = self.program.wishes

    def test_forgotten_by_mapping(self):
        window, surface = self.map_with(7, grant=8)
        self.program.hide(surface)
        self.again(window, surface, 7)
        self.assertIs(self.is_top(window), False)
        self.assertEqual(self.program.grant, 7)

    def test_forgotten_by_unmapping(self):
        window, surface = self.map_with(grant=None)
        self.ask(window, "map_with", 7)
        self.program.hide(surface)
        self.again(window, surface, 7)
        self.assertIs(self.is_top(window), False)
        self.program.hide(surface)
        self.ask(window, "map_with", 7)
        self.again(window, surface, 7)
        self.assertIs(self.is_top(window), True)


class Kept(WindowsTest):
    def map_named(self, name, *kept, size=(40, 30)):
        """Map a window under a name; return its frame, whether it is maximized, and the frame of before."""
        window, surface = self.program.window()
        self.program.configure(window, surface)
        self.ask(window, "name", name)
        self.program.kept = list(kept)
        self.program.show(surface, *size)
        _, _, frame, maximized, before, top = self.program.wishes[0]
        self.assertIs(top, False)
        self.assertEqual(self.placed(window), (frame, False, maximized, before))
        return frame, maximized, before

    def test_the_frame(self):
        rows = [("a", (50, 60, 70, 80), None), ("b", (1, 2, 30, 40), None), ("a", (9, 9, 99, 99), None)]
        self.assertEqual(self.map_named("a", *rows), ((50, 60, 70, 80), False, None))
        self.assertEqual(self.map_named("b", *rows), ((1, 2, 30, 40), False, None))

    def test_no_frame_under_the_name(self):
        self.assertEqual(self.map_named("a", ("b", (50, 60, 70, 80), None)), ((0, 0, 44, 42), False, None))

    def test_empty_names(self):
        self.assertEqual(self.map_named("", ("", (50, 60, 70, 80), None)), ((0, 0, 44, 42), False, None))

    def test_maximized(self):
        row = ("a", (0, 0, 400, 300), (50, 60, 70, 80))
        self.assertEqual(self.map_named("a", row), ((0, 0, 400, 300), True, (50, 60, 70, 80)))

    def test_not_to_be_caught(self):
        for frame in [(385, 0, 74, 92), (-900, -900, 74, 92), (0, -1, 74, 92), (0, 291, 74, 92)]:
            self.setUp()
            self.assertEqual(self.map_named("a", ("a", frame, None)), ((0, 0, 74, 92), False, None))
        self.assertEqual(self.map_named("a", ("a", (384, 290, 74, 92), None)), ((384, 290, 74, 92), False, None))

    def test_maximized_and_not_to_be_caught(self):
        row = ("a", (900, 0, 500, 100), (50, 60, 70, 80))
        self.assertEqual(self.map_named("a", row), ((0, 0, 400, 100), False, None))

    def test_too_small(self):
        self.assertEqual(self.map_named("a", ("a", (50, 60, 19, 80), None)), ((0, 0, 20, 80), False, None))
        self.assertEqual(self.map_named("a", ("a", (50, 60, 70, 27), None)), ((24, 24, 70, 28), False, None))
        self.assertEqual(self.map_named("a", ("a", (50, 60, 20, 28), None)), ((50, 60, 20, 28), False, None))

    def test_it_counts_too(self):
        self.map_named("a", ("a", (50, 60, 70, 80), None))
        self.assertEqual(self.map_named("b")[0], (24, 24, 44, 42))

    def test_the_name_at_the_mapping(self):
        window, surface = self.program.mapped()
        self.program.kept = [("a", (50, 60, 70, 80), None)]
        self.ask(window, "name", "a")
        self.program.show(surface, 50, 50)
        self.assertEqual(self.placed(window)[0], (0, 0, 44, 42))
        self.program.hide(surface)
        self.program.configure(window, surface)
        self.program.show(surface, 40, 30)
        self.assertEqual(self.placed(window)[0], (50, 60, 70, 80))


class Asking(WindowsTest):
    """Each request of a window: not mapped, mapped and maximized, with the grant and with another serial."""

    def setUp(self):
        super().setUp()
        self.window, self.surface = self.program.mapped(100, 80)
        self.other, _ = self.program.mapped(10, 10)
        self.program.stack.lift(0, self.other)
        self.program.grant = 7

    def maximize(self):
        self.program.stack.perform(0, ("frame", self.window, AREA, True, (0, 0, 104, 92)))

    def unmapped(self):
        self.program.hide(self.surface)
        return self.window

    def test_not_mapped(self):
        window = self.unmapped()
        for name, arguments in [
            ("smaller", (20, 20)), ("grow", (200, 200, 7)), ("raise", (7,)), ("maximize", (7,)), ("restore", ()),
        ]:
            self.assertEqual(self.wishes(window, name, *arguments), [])
        self.assertEqual(self.program.grant, 7)

    def test_mapped_as_the_view_tells(self):
        self.program.stack.take(0, self.window)
        self.assertEqual(self.wishes(self.window, "raise", 7), [])
        window, _ = self.program.window()
        self.program.stack.perform(0, ("map", window, (0, 0, 104, 92), False, None, False))
        self.assertEqual(self.wishes(window, "raise", 7), [("raise", window), ("spend",)])

    def test_another_serial(self):
        for name, arguments in [("grow", (200, 200)), ("raise", ()), ("maximize", ())]:
            for grant, serial in [(7, 8), (7, 0), (None, 0), (None, 7)]:
                self.program.grant = grant
                self.assertEqual(self.wishes(self.window, name, *arguments, serial), [])
                self.assertEqual(self.program.grant, grant)

    def test_raise(self):
        self.assertEqual(self.wishes(self.window, "raise", 7), [("raise", self.window), ("spend",)])
        self.assertEqual((self.stacked()[-1], self.program.grant), (self.window, None))
        self.maximize()
        self.program.grant = 8
        self.assertEqual(self.wishes(self.window, "raise", 8), [("raise", self.window), ("spend",)])

    def test_grow(self):
        wishes = [("frame", self.window, (0, 0, 204, 162), False, None), ("spend",)]
        self.assertEqual(self.wishes(self.window, "grow", 200, 150, 7), wishes)
        self.assertIsNone(self.program.grant)
        self.assertEqual(self.placed(self.window)[0], (0, 0, 204, 162))

    def test_grow_that_changes_nothing(self):
        wishes = [("frame", self.window, (0, 0, 104, 92), False, None), ("spend",)]
        self.assertEqual(self.wishes(self.window, "grow", 100, 80, 7), wishes)

    def test_grow_in_its_output(self):
        self.program.areas = [AREA, (400, 0, 200, 200)]
        self.program.stack.perform(0, ("frame", self.window, (420, 30, 104, 92), False, None))
        wishes = [("frame", self.window, (400, 0, 200, 200), False, None), ("spend",)]
        self.assertEqual(self.wishes(self.window, "grow", 4096, 4096, 7), wishes)

    def test_grow_of_a_maximized_one(self):
        self.maximize()
        self.assertEqual(self.wishes(self.window, "grow", 20, 20, 7), [])
        self.assertEqual(self.program.grant, 7)

    def test_sizes(self):
        for window in [self.window, self.unmapped()]:
            for width, height in [(4097, 1), (1, 4097), (TOP, TOP)]:
                self.assertEqual(self.ask(window, "grow", width, height, 7), (window, 5, "bad size"))
                self.assertEqual(self.ask(window, "grow", width, height, 8), (window, 5, "bad size"))
                self.assertEqual(self.ask(window, "smaller", width, height), (window, 5, "bad size"))
            self.assertEqual(self.wishes(window, "smaller", 4096, 4096), [])
            self.assertEqual(self.wishes(window, "grow", 4096, 4096, 8), [])
        self.assertEqual(self.program.grant, 7)

    def test_smaller(self):
        for size, frame in [((90, 70), (0, 0, 94, 82)), ((90, 16), (0, 0, 94, 28)), ((16, 16), (0, 0, 20, 28))]:
            wishes = [("frame", self.window, frame, False, None)]
            self.assertEqual(self.wishes(self.window, "smaller", *size), wishes)
            self.assertEqual(self.placed(self.window)[0], frame)
        self.assertEqual(self.program.grant, 7)

    def test_smaller_of_the_same_size(self):
        wishes = [("frame", self.window, (0, 0, 104, 92), False, None)]
        self.assertEqual(self.wishes(self.window, "smaller", 100, 80), wishes)

    def test_smaller_that_is_not(self):
        for size in [(101, 80), (100, 81), (101, 20), (20, 81), (15, 80), (100, 15), (0, 0), (4096, 4096)]:
            self.assertEqual(self.wishes(self.window, "smaller", *size), [])
        self.assertEqual(self.placed(self.window)[0], (0, 0, 104, 92))

    def test_smaller_of_a_maximized_one(self):
        self.maximize()
        wishes = [("frame", self.window, (0, 0, 104, 92), True, (0, 0, 104, 92))]
        self.assertEqual(self.wishes(self.window, "smaller", 100, 80), wishes)

    def test_maximize(self):
        self.program.areas = [(400, 0, 200, 200), AREA]
        wishes = [("frame", self.window, AREA, True, (0, 0, 104, 92)), ("spend",)]
        self.assertEqual(self.wishes(self.window, "maximize", 7), wishes)
        self.assertIsNone(self.program.grant)
        self.program.grant = 8
        self.assertEqual(self.wishes(self.window, "maximize", 8), [])
        self.assertEqual(self.program.grant, 8)
        self.assertEqual(self.placed(self.window), (AREA, False, True, (0, 0, 104, 92)))

    def test_maximize_without_room(self):
        for area in [(0, 0, 19, 300), (0, 0, 300, 27), (0, 0, 1, 1)]:
            self.program.areas = [area]
            self.program.grant = 7
            self.assertEqual(self.wishes(self.window, "maximize", 7), [("spend",)])
            self.assertEqual(self.placed(self.window), ((0, 0, 104, 92), False, False, None))
            self.assertIsNone(self.program.grant)
        self.program.areas = [(0, 0, 20, 28)]
        self.program.grant = 7
        self.assertEqual(len(self.wishes(self.window, "maximize", 7)), 2)

    def test_restore(self):
        self.assertEqual(self.wishes(self.window, "restore"), [])
        self.maximize()
        wishes = [("frame", self.window, (0, 0, 104, 92), False, None)]
        self.assertEqual(self.wishes(self.window, "restore"), wishes)
        self.assertEqual(self.wishes(self.window, "restore"), [])
        self.assertEqual(self.program.grant, 7)

    def test_restore_with_nothing_in_common(self):
        for before in [(400, 0, 104, 92), (381, 0, 104, 92), (0, 273, 104, 92)]:
            self.program.stack.perform(0, ("frame", self.window, AREA, True, before))
            self.assertEqual(self.wishes(self.window, "restore"), [("frame", self.window, AREA, False, None)])
        self.program.stack.perform(0, ("frame", self.window, AREA, True, (380, 272, 104, 92)))
        wishes = [("frame", self.window, (380, 272, 20, 28), False, None)]
        self.assertEqual(self.wishes(self.window, "restore"), wishes)


class Acknowledging(WindowsTest):
    """Only the mapping tells whether a configure was acknowledged, so the windows here are not mapped but in the view.

    A window that is in the stack is sent configures; its desk maps it with the first commit behind an acknowledgement.
    """

    def setUp(self):
        super().setUp()
        self.window, self.surface = self.program.window()

    def send(self, many):
        """Let so many configures be sent, by sizes that change, and return their numbers."""
        numbers = []
        for at in range(many):
            frame = (0, 0, 50 + at, 50)
            self.program.stack.perform(0, ("map", self.window, frame, False, None, False))
            numbers.extend([row[2] for row in self.program.tell_frames() if row[1] == "configure"])
        self.program.stack.take(0, self.window)
        return numbers

    def maps(self):
        """Tell whether a commit with a picture maps the window."""
        buffer = self.program.attach(self.surface, 1, 1)
        told, wishes = self.program.commit(self.surface), self.program.wishes
        self.program.ask(buffer, "buffer", "destroy")
        if told == (self.window, 3, "not configured"):
            return False
        self.assertEqual(wishes[0][0], "map")
        return True

    def check(self, many, acknowledged, expected):
        self.setUp()
        self.assertEqual(self.send(many), list(range(1, many + 1)))
        for number in acknowledged:
            self.assertEqual(self.wishes(self.window, "ack", number), [])
        self.assertIs(self.maps(), expected)

    def test_numbers(self):
        for acknowledged, expected in [
            ([], False), ([1], True), ([2], True), ([3], True), ([4], False), ([0], False), ([TOP], False),
            ([3, 1], True), ([1, 1], True), ([9, 2], True),
        ]:
            self.check(3, acknowledged, expected)

    def test_the_last_64(self):
        self.check(64, [1], True)
        self.check(65, [1], False)
        self.check(65, [2], True)
        self.check(100, list(range(1, 37)), False)
        self.check(100, [37], True)

    def test_those_that_are_not_acknowledged(self):
        # Behind an acknowledgement there are fewer than 64 that are not.
        window = self.window
        self.send(70)
        self.ask(window, "ack", 70)
        self.send(70)
        self.assertIs(self.maps(), True)

    def test_twice_and_earlier_behind_later(self):
        self.send(5)
        self.ask(self.window, "ack", 4)
        self.assertIs(self.maps(), True)
        self.program.hide(self.surface)
        self.assertIs(self.maps(), False)
        for number in range(1, 6):
            self.ask(self.window, "ack", number)
        self.assertIs(self.maps(), False)
        self.assertEqual(self.program.hide(self.surface), [(self.window, "configure", 6, 0, 0, 0)])
        for number in range(1, 6):
            self.ask(self.window, "ack", number)
        self.assertIs(self.maps(), False)
        self.ask(self.window, "ack", 6)
        self.assertIs(self.maps(), True)

    def test_of_another_window(self):
        other, _ = self.program.window()
        self.send(1)
        self.ask(other, "ack", 1)
        self.assertIs(self.maps(), False)


class Telling(WindowsTest):
    def setUp(self):
        super().setUp()
        self.program.areas = [AREA, (400, 0, 200, 300), (0, 300, 600, 100)]

    def frame(self, window, frame, maximized=False):
        self.program.stack.perform(0, ("frame", window, frame, maximized, None))

    def test_nothing_mapped(self):
        self.program.window()
        self.assertEqual(self.program.tell_frames(), [])

    def test_size_and_states(self):
        window, _ = self.program.mapped(40, 30)
        told = [(window, "output", 0), (window, "configure", 2, 40, 30, 0)]
        self.assertEqual(self.program.tell_frames(), told)
        self.assertEqual(self.program.tell_frames(), [])
        for frame, maximized, focus, values in [
            ((0, 0, 45, 42), False, None, (3, 41, 30, 0)),
            ((0, 0, 45, 43), False, None, (4, 41, 31, 0)),
            ((9, 9, 45, 43), False, None, None),
            ((9, 9, 45, 43), False, window, (5, 41, 31, 2)),
            ((9, 9, 45, 43), True, window, (6, 41, 31, 3)),
            ((9, 9, 45, 43), True, window, None),
            ((9, 9, 45, 43), True, window + 999, (7, 41, 31, 1)),
            ((9, 9, 45, 43), True, None, None),
            ((9, 9, 45, 43), False, None, (8, 41, 31, 0)),
        ]:
            self.frame(window, frame, maximized)
            self.program.focus = focus
            self.assertEqual(self.program.tell_frames(), [] if values is None else [(window, "configure", *values)])

    def test_outputs(self):
        window, _ = self.program.mapped(40, 30)
        self.program.tell_frames()
        for frame, told in [
            ((357, 0, 44, 42), [("output", 1)]),
            ((357, 259, 44, 42), [("output", 2)]),
            ((400, 259, 44, 42), [("left", 0)]),
            ((356, 0, 44, 42), [("output", 0), ("left", 1), ("left", 2)]),
            ((900, 0, 44, 42), [("left", 0)]),
            ((356, 0, 44, 42), [("output", 0)]),
            ((357, 259, 44, 42), [("output", 1), ("output", 2)]),
            ((357, 260, 44, 42), []),
        ]:
            self.frame(window, frame)
            self.assertEqual(self.program.tell_frames(), [(window, *row) for row in told])

    def test_window_by_window(self):
        first, _ = self.program.mapped(40, 30)
        second, _ = self.program.mapped(40, 30)
        self.assertEqual(self.program.tell_frames(), [
            (first, "output", 0), (first, "configure", 3, 40, 30, 0),
            (second, "output", 0), (second, "configure", 4, 40, 30, 0),
        ])
        self.program.stack.lift(0, first)
        self.frame(second, (390, 290, 54, 42))
        self.frame(first, (400, 100, 44, 52))
        self.program.focus = second
        self.assertEqual(self.program.tell_frames(), [
            (first, "output", 1), (first, "left", 0), (first, "configure", 5, 40, 40, 0),
            (second, "output", 1), (second, "output", 2), (second, "configure", 6, 50, 30, 2),
        ])

    def test_hidden_windows_too(self):
        window, _ = self.program.mapped(40, 30)
        self.program.stack.find(0, window).hidden = True
        self.assertEqual(len(self.program.tell_frames()), 2)

    def test_behind_an_unmapping(self):
        window, surface = self.program.mapped(40, 30)
        self.program.tell_frames()
        self.program.hide(surface)
        self.assertEqual(self.program.tell_frames(), [])
        self.program.configure(window, surface)
        self.program.show(surface, 40, 30)
        self.assertEqual(self.program.tell_frames(), [
            (window, "output", 0), (window, "configure", 4, 40, 30, 0),
        ])

    def test_mapped_as_the_view_tells(self):
        window, _ = self.program.mapped(40, 30)
        placed = self.program.stack.find(0, window)
        self.program.stack.take(0, window)
        self.assertEqual(self.program.tell_frames(), [])
        self.program.stack.put(placed, True)
        self.assertEqual(len(self.program.tell_frames()), 2)

    def test_other_outputs(self):
        window, _ = self.program.mapped(40, 30)
        self.program.tell_frames()
        self.program.areas = [(900, 0, 50, 50), AREA]
        self.assertEqual(self.program.tell_frames(), [(window, "output", 1), (window, "left", 0)])

    def test_close(self):
        window, _ = self.program.mapped(40, 30)
        reply = Reply()
        self.program.desk.tell_close(window, reply)
        self.assertEqual(self.program.events(reply), [(window, "close")])
        self.assertEqual((reply.wishes, reply.ended), ([], []))


if __name__ == "__main__":
    unittest.main()
