"""Points 63 to 68 and 71: where users' actions go."""

import copy
import unittest

from sillwatch.devices.memory import Painted
from sillwatch.devices.routing import Routing, nearest_point
from sillwatch.devices.scenes import covers_of, scene_of
from sillwatch.devices.sight import Sight
from sillwatch.windows.frames import moved_frame, resized_frame
from sillwatch.windows.stack import Placed, Stack
from tests.program import Program, at

LEFT, RIGHT = (0, 0, 200, 150), (200, 0, 100, 150)
# The inside of this frame has its corner at (20, 20) and is 60 times 40.
FRAME = (18, 10, 64, 52)


class NearestPoint(unittest.TestCase):
    def check(self, areas, *rows):
        for place, expected in rows:
            with self.subTest(place=place):
                self.assertEqual(nearest_point(areas, *place), expected)

    def test_one_output(self):
        self.check(
            [(10, 20, 5, 4)], ((10, 20), (10, 20)), ((14, 23), (14, 23)), ((12, 21), (12, 21)), ((15, 23), (14, 23)),
            ((14, 24), (14, 23)), ((9, 19), (10, 20)), ((-100000, 100000), (10, 23)), ((12, 0), (12, 20)),
            ((99, 22), (14, 22)),
        )

    def test_one_square(self):
        self.check([(-3, 4, 1, 1)], ((0, 0), (-3, 4)), ((-3, 4), (-3, 4)))

    def test_two_outputs(self):
        areas = [(0, 0, 10, 10), (20, 0, 10, 10)]
        self.check(areas, ((9, 0), (9, 0)), ((20, 0), (20, 0)), ((10, 3), (9, 3)), ((19, 3), (20, 3)),
                   ((14, 3), (9, 3)), ((15, 3), (20, 3)))

    def test_equally_near(self):
        areas = [(0, 0, 10, 10), (19, 0, 10, 10)]
        self.check(areas, ((14, 3), (9, 3)))
        self.check(areas[::-1], ((14, 3), (19, 3)))

    def test_the_sum_of_both_ways(self):
        # 3 + 3 to the first one, 5 + 0 to the second one.
        areas = [(0, 0, 10, 10), (17, 12, 10, 10)]
        self.check(areas, ((12, 12), (17, 12)))
        self.check([(0, 0, 10, 10), (18, 12, 10, 10)], ((12, 12), (9, 9)))

    def test_four_outputs(self):
        areas = [(0, 0, 5, 5), (5, 0, 5, 5), (0, 5, 5, 5), (5, 5, 5, 5)]
        for x in range(10):
            for y in range(10):
                self.assertEqual(nearest_point(areas, x, y), (x, y))
        self.check(areas, ((-1, 12), (0, 9)), ((12, -1), (9, 0)), ((12, 7), (9, 7)))


class RoutingTest(unittest.TestCase):
    def setUp(self):
        self.areas = [LEFT, RIGHT]
        self.stack = Stack()
        self.programs = [Program(self.areas, slot, self.stack) for slot in range(3)]
        self.painted = Painted()
        self.guard = 0
        self.routing = Routing(self.areas)

    def sight(self):
        """Return the sight now. The last slot has no program."""
        desks = [program.desk for program in self.programs] + [None]
        paintings = [program.painting for program in self.programs] + [None]
        views = [program.view() for program in self.programs] + [None]
        scene = scene_of(self.stack, paintings, desks, views)
        return Sight(list(self.areas), scene, self.stack, paintings, desks, self.painted, self.guard)

    def paint(self, time=0):
        self.painted.paint(time, covers_of(self.sight().scene, self.areas))

    def mapped(self, slot, frame=FRAME, width=None, height=None):
        """Map a window at a frame on top, with a picture as large as its inside, and paint that."""
        program = self.programs[slot]
        width = frame[2] - 4 if width is None else width
        height = frame[3] - 12 if height is None else height
        window, surface = program.mapped(width, height)
        self.stack.perform(slot, ("map", window, frame, False, None, True))
        self.paint()
        return window, surface

    def motion(self, x, y, time=0):
        return self.routing.motion(self.sight(), time, x, y)

    def press(self, number=1, time=0):
        return self.routing.button(self.sight(), time, number, True)

    def release(self, number=1, time=0):
        return self.routing.button(self.sight(), time, number, False)

    def lost(self):
        return self.routing.lost(self.sight())

    def carry_out(self, deeds):
        """Carry out what deeds say of the stack."""
        for slot, deed in deeds:
            if deed[0] == "lift":
                self.stack.lift(slot, deed[1])
            elif deed[0] == "frame":
                self.stack.perform(slot, deed)
            elif deed[0] in ("hide", "unhide"):
                self.set_hidden(slot, deed[1], deed[0] == "hide")
        return deeds

    def set_hidden(self, slot, window, hidden):
        row = self.stack.find(slot, window)
        rows = [Placed(slot, window, row.frame, hidden, row.maximized, row.before) if other is row else other
                for other in self.stack.placed_rows()]
        for other in rows:
            self.stack.put(other, True)

    def others(self, *slots):
        return [(slot, ("dismiss",)) for slot in slots]


class Beginning(RoutingTest):
    def test_fields(self):
        routing = Routing([(7, -8, 10, 10), LEFT])
        self.assertEqual((routing.x, routing.y), (7, -8))
        self.assertEqual((routing.buttons, routing.codes, routing.focus, routing.pointer_at), ([], [], None, None))
        self.assertIs(routing.has_grip(0), False)

    def test_sight(self):
        sight = Sight(1, 2, 3, 4, 5, 6, 7)
        fields = (sight.areas, sight.scene, sight.stack, sight.paintings, sight.desks, sight.painted, sight.guard)
        self.assertEqual(fields, (1, 2, 3, 4, 5, 6, 7))

    def test_arguments_stay(self):
        self.mapped(0)
        sight = self.sight()
        before = copy.deepcopy((sight.areas, [vars(row) for row in self.stack.placed_rows()]))
        self.routing.motion(sight, 1, 30, 30)
        self.routing.button(sight, 1, 1, True)
        self.routing.button(sight, 1, 1, False)
        self.assertEqual((sight.areas, [vars(row) for row in self.stack.placed_rows()]), before)


class Motions(RoutingTest):
    def test_to_the_nearest_point(self):
        self.assertEqual(self.motion(500, -7), [])
        self.assertEqual((self.routing.x, self.routing.y), (299, 0))

    def test_enter_and_motion_and_leave(self):
        window, surface = self.mapped(0)
        self.assertEqual(self.motion(25, 31, 5), [(0, ("enter", surface, 5, 11))])
        self.assertEqual(self.routing.pointer_at, (0, surface))
        self.assertEqual(self.motion(79, 59, 6), [(0, ("motion", 59, 39, 6))])
        self.assertEqual(self.motion(79, 59, 7), [(0, ("motion", 59, 39, 7))])
        self.assertEqual(self.motion(82, 59, 8), [(0, ("leave", surface))])
        self.assertIsNone(self.routing.pointer_at)
        self.assertEqual(self.motion(150, 100, 9), [])

    def test_over_a_frame_and_ground(self):
        window, surface = self.mapped(0, FRAME, 10, 10)
        self.motion(25, 25)
        self.assertEqual(self.motion(40, 25), [(0, ("leave", surface))])
        self.motion(25, 25)
        self.assertEqual(self.motion(25, 15), [(0, ("leave", surface))])

    def test_to_another_program(self):
        _, first = self.mapped(0)
        _, second = self.mapped(1, (100, 10, 64, 52))
        self.motion(30, 30)
        self.assertEqual(self.motion(110, 30), [(0, ("leave", first)), (1, ("enter", second, 8, 10))])
        self.assertEqual(self.routing.pointer_at, (1, second))

    def test_the_same_number_in_another_slot(self):
        _, first = self.mapped(0)
        _, second = self.mapped(1, (100, 10, 64, 52))
        self.assertEqual(first, second)
        self.motion(30, 30)
        self.assertEqual(self.motion(110, 30), [(0, ("leave", first)), (1, ("enter", second, 8, 10))])

    def test_to_another_surface_of_the_program(self):
        _, surface = self.mapped(0)
        program = self.programs[0]
        _, inner = program.inner(surface, 10, 10)
        program.commit(surface)
        self.motion(40, 40)
        self.assertEqual(self.motion(23, 24), [(0, ("leave", surface)), (0, ("enter", inner, 3, 4))])

    def test_nothing_settled_is_needed(self):
        self.guard = 1000
        _, surface = self.mapped(0)
        self.assertEqual(self.motion(25, 25), [(0, ("enter", surface, 5, 5))])

    def test_nothing_is_looked_up_when_windows_come_and_go(self):
        window, surface = self.mapped(0)
        self.motion(30, 30)
        _, other = self.mapped(1)
        self.assertEqual(self.lost(), [])
        self.assertEqual(self.routing.pointer_at, (0, surface))
        self.assertEqual(self.motion(30, 30, 5), [(0, ("leave", surface)), (1, ("enter", other, 10, 10))])

    def test_a_large_time_stays(self):
        self.mapped(0)
        self.motion(30, 30)
        self.assertEqual(self.motion(31, 30, 2 ** 32 + 1), [(0, ("motion", 11, 10, 2 ** 32 + 1))])


class FirstPresses(RoutingTest):
    def test_a_surface(self):
        window, surface = self.mapped(1)
        self.motion(30, 40)
        self.assertEqual(self.press(2, 7), [
            (1, ("motion", 10, 20, 7)), (0, ("dismiss",)), (2, ("dismiss",)), (1, ("lift", window)),
            (1, ("focus", surface)), (1, ("button", 2, 1, 7)),
        ])
        self.assertEqual((self.routing.buttons, self.routing.focus), ([2], (1, window)))
        self.assertIs(self.routing.has_grip(1), True)
        self.assertIs(self.routing.has_grip(0), False)

    def test_a_surface_that_has_not_the_pointer(self):
        self.motion(30, 40)
        window, surface = self.mapped(1)
        self.assertEqual(self.press()[:2], [(1, ("enter", surface, 10, 20)), (0, ("dismiss",))])
        self.assertEqual(self.routing.pointer_at, (1, surface))

    def test_the_focus_goes_over(self):
        first, first_surface = self.mapped(0)
        second, second_surface = self.mapped(1, (100, 10, 64, 52))
        self.motion(30, 30)
        self.press()
        self.release()
        self.motion(110, 30)
        self.assertEqual(self.press(), [
            (1, ("motion", 8, 10, 0)), (0, ("dismiss",)), (2, ("dismiss",)), (1, ("lift", second)),
            (0, ("unfocus", first_surface)), (1, ("focus", second_surface)), (1, ("button", 1, 1, 0)),
        ])
        self.assertEqual(self.routing.focus, (1, second))

    def test_the_focus_goes_to_another_window_of_the_program(self):
        first, first_surface = self.mapped(0)
        second, second_surface = self.mapped(0, (100, 10, 64, 52))
        self.motion(30, 30)
        self.press()
        self.release()
        self.motion(110, 30)
        deeds = self.press()
        self.assertEqual(deeds[-4:], [
            (0, ("lift", second)), (0, ("unfocus", first_surface)), (0, ("focus", second_surface)),
            (0, ("button", 1, 1, 0)),
        ])

    def test_a_window_that_has_the_focus(self):
        window, surface = self.mapped(0)
        self.motion(30, 30)
        self.press()
        self.release()
        self.assertEqual(self.press(), [(0, ("motion", 10, 10, 0))] + self.others(1, 2) + [
            (0, ("lift", window)), (0, ("button", 1, 1, 0)),
        ])

    def test_the_ground(self):
        window, surface = self.mapped(0, FRAME, 10, 10)
        self.motion(25, 25)
        self.motion(50, 50)
        expected = self.others(1, 2) + [(0, ("lift", window)), (0, ("focus", surface))]
        self.assertEqual(self.press(), expected)
        self.assertIs(self.routing.has_grip(0), False)
        self.assertEqual(self.motion(25, 25), [])
        self.assertEqual(self.press(2), [])

    def test_the_frame(self):
        window, surface = self.mapped(0)
        self.motion(20, 12)
        self.assertEqual(self.press(), self.others(1, 2) + [(0, ("lift", window)), (0, ("focus", surface))])
        self.assertIs(self.routing.has_grip(0), False)

    def test_nothing(self):
        self.mapped(0)
        self.motion(150, 100)
        self.assertEqual(self.press(), self.others(0, 1, 2))
        self.assertIsNone(self.routing.focus)

    def test_nothing_where_something_had_the_pointer(self):
        window, surface = self.mapped(0)
        self.motion(30, 30)
        self.press()
        self.release()
        self.stack.perform(0, ("frame", window, (100, 80, 64, 52), False, None))
        self.paint()
        self.assertEqual(self.press(), [(0, ("leave", surface))] + self.others(0, 1, 2))
        self.assertEqual(self.routing.focus, (0, window))

    def test_slots_without_a_program(self):
        window, _ = self.mapped(1)
        self.motion(30, 30)
        sight = self.sight()
        sight.desks[0] = None
        sight.paintings[0] = None
        deeds = self.routing.button(sight, 0, 1, True)
        self.assertEqual([row for row in deeds if row[1] == ("dismiss",)], [(2, ("dismiss",))])

    def test_a_press_of_what_is_pressed(self):
        self.mapped(0)
        self.motion(30, 30)
        self.press()
        self.assertEqual(self.press(), [])
        self.assertEqual(self.routing.buttons, [1])

    def test_a_release_of_what_is_not_pressed(self):
        self.mapped(0)
        self.motion(30, 30)
        self.assertEqual(self.release(), [])
        self.press()
        self.assertEqual(self.release(2), [])
        self.assertEqual(self.routing.buttons, [1])


class NotSettled(RoutingTest):
    def test_a_window_that_was_not_painted(self):
        self.paint()
        program = self.programs[0]
        window, surface = program.mapped(60, 40)
        self.stack.perform(0, ("map", window, FRAME, False, None, True))
        self.motion(30, 30)
        self.assertEqual(self.press(), [])
        self.assertEqual((self.routing.buttons, self.routing.focus), ([1], None))
        self.assertIs(self.routing.has_grip(0), False)
        self.paint()
        # Nobody has the grip until all buttons are released, and nothing is looked up.
        self.assertEqual(self.press(2), [])
        self.assertEqual(self.motion(31, 31), [])
        self.assertEqual(self.motion(150, 100), [])
        self.assertEqual(self.release(1), [])
        self.assertEqual(self.motion(32, 31), [])
        self.assertEqual(self.release(2), [])
        self.assertEqual(self.routing.pointer_at, (0, surface))
        self.assertEqual(self.press()[0], (0, ("motion", 12, 11, 0)))

    def test_the_guard_time(self):
        self.paint(0)
        program = self.programs[0]
        window, surface = program.mapped(60, 40)
        self.stack.perform(0, ("map", window, FRAME, False, None, True))
        self.paint(100)
        self.guard = 50
        self.motion(30, 30, 100)
        self.assertEqual(self.press(1, 149), [])
        self.release(1, 149)
        self.assertNotEqual(self.press(1, 150), [])

    def test_the_frame_that_was_not_seen(self):
        window, surface = self.mapped(0)
        # The point lies in the frame as it was and as it is.
        self.stack.perform(0, ("frame", window, (17, 10, 64, 52), False, None))
        self.motion(20, 12)
        self.assertEqual(self.press(), self.others(1, 2) + [(0, ("lift", window)), (0, ("focus", surface))])
        self.assertEqual(self.motion(30, 22), [])

    def test_only_the_first_press_must_be_settled(self):
        window, surface = self.mapped(0)
        self.motion(30, 30)
        self.press()
        self.carry_out([(0, ("frame", window, (40, 30, 64, 52), False, None))])
        self.assertEqual(self.press(2, 5), [(0, ("button", 2, 1, 5))])

    def test_windows_of_nobody(self):
        window, surface = self.mapped(0)
        self.painted.disown(0)
        self.motion(30, 30)
        self.assertEqual(self.press(), [])


class Grips(RoutingTest):
    def setUp(self):
        super().setUp()
        self.window, self.surface = self.mapped(0)
        self.other, self.other_surface = self.mapped(1, (100, 10, 64, 52))
        self.motion(30, 30)
        self.press()

    def test_motions(self):
        self.assertEqual(self.motion(31, 33, 5), [(0, ("motion", 11, 13, 5))])
        self.assertEqual(self.motion(110, 30, 6), [(0, ("motion", 90, 10, 6))])
        self.assertEqual(self.motion(0, 0, 7), [(0, ("motion", -20, -20, 7))])
        self.assertEqual(self.motion(-50, -50, 8), [(0, ("motion", -20, -20, 8))])
        self.assertEqual(self.routing.pointer_at, (0, self.surface))

    def test_motions_with_the_surface_elsewhere(self):
        self.carry_out([(0, ("frame", self.window, (48, 30, 64, 52), False, None))])
        self.assertEqual(self.motion(30, 30, 5), [(0, ("motion", -20, -10, 5))])

    def test_further_presses_and_releases(self):
        self.motion(110, 30)
        self.assertEqual(self.press(3, 5), [(0, ("button", 3, 1, 5))])
        self.assertEqual(self.routing.focus, (0, self.window))
        self.assertEqual(self.release(1, 6), [(0, ("button", 1, 0, 6))])
        self.assertIs(self.routing.has_grip(0), True)
        self.assertEqual(self.press(1, 7), [(0, ("button", 1, 1, 7))])
        self.assertEqual(self.release(1, 8), [(0, ("button", 1, 0, 8))])

    def test_the_last_release(self):
        self.motion(110, 30)
        self.assertEqual(self.release(1, 9), [
            (0, ("button", 1, 0, 9)), (0, ("leave", self.surface)), (1, ("enter", self.other_surface, 8, 10)),
        ])
        self.assertIs(self.routing.has_grip(0), False)
        self.assertEqual(self.routing.focus, (0, self.window))

    def test_the_last_release_over_the_same_surface(self):
        self.assertEqual(self.release(1, 9), [(0, ("button", 1, 0, 9)), (0, ("motion", 10, 10, 9))])

    def test_the_last_release_over_nothing(self):
        self.motion(150, 120)
        self.assertEqual(self.release(1, 9), [(0, ("button", 1, 0, 9)), (0, ("leave", self.surface))])

    def test_places_in_an_inner_surface(self):
        program = self.programs[0]
        self.release()
        sub, inner = program.inner(self.surface, 10, 10)
        program.ask(sub, "sub", "place", 7, 5)
        program.commit(self.surface)
        self.motion(30, 28)
        self.press()
        self.assertEqual(self.motion(50, 50, 4), [(0, ("motion", 23, 25, 4))])

    def test_motions_without_the_surface(self):
        self.stack.take(0, self.window)
        self.assertEqual(self.motion(31, 33), [])

    def test_axis(self):
        self.assertEqual(self.routing.axis(self.sight(), 5, -3, 4), [(0, ("axis", -3, 4, 5))])
        self.motion(110, 30)
        self.assertEqual(self.routing.axis(self.sight(), 5, -3, 4), [(0, ("axis", -3, 4, 5))])
        self.release()
        self.assertEqual(self.routing.axis(self.sight(), 6, 1, 2), [(1, ("axis", 1, 2, 6))])
        self.motion(150, 120)
        self.assertEqual(self.routing.axis(self.sight(), 7, 1, 2), [])


class HeldFrames(RoutingTest):
    def setUp(self):
        super().setUp()
        self.window, self.surface = self.mapped(0)

    def hold(self, x, y, number=1):
        self.motion(x, y)
        return self.carry_out(self.press(number))

    def frame(self):
        return self.stack.find(0, self.window).frame

    def drawn(self, frame):
        return [(0, ("frame", self.window, frame, False, None)), (0, ("dismiss",))]

    def test_moving(self):
        self.hold(20, 12)
        self.assertEqual(self.carry_out(self.motion(25, 10)), self.drawn((23, 8, 64, 52)))
        self.assertEqual(self.carry_out(self.motion(26, 11)), self.drawn((24, 9, 64, 52)))
        self.assertEqual(self.carry_out(self.motion(26, 11)), self.drawn((24, 9, 64, 52)))

    def test_moving_by_the_way_of_the_pointer(self):
        self.hold(20, 12)
        # The pointer stays in the outputs.
        frame = moved_frame(self.areas, FRAME, -20, -12)
        self.assertEqual(self.motion(-500, -500), self.drawn(frame))

    def test_moving_keeps_the_frame_to_be_caught(self):
        self.hold(20, 12)
        self.assertEqual(self.carry_out(self.motion(20, 149)), self.drawn(moved_frame(self.areas, FRAME, 0, 137)))
        self.assertEqual(self.frame(), FRAME)

    def test_resizing(self):
        for x, y, part in [(18, 30, (-1, 0)), (81, 30, (1, 0)), (40, 61, (0, 1)), (18, 60, (-1, 1)), (81, 61, (1, 1)),
                           (27, 61, (-1, 1)), (28, 61, (0, 1)), (71, 61, (0, 1)), (72, 61, (1, 1))]:
            with self.subTest(x=x, y=y):
                self.setUp()
                self.hold(x, y)
                frame = resized_frame(FRAME, ("resize", *part), 5, 7, (0, 0), (0, 0))
                self.assertEqual(self.carry_out(self.motion(x + 5, y + 7)), self.drawn(frame))
                further = resized_frame(frame, ("resize", *part), -1, 2, (0, 0), (0, 0))
                self.assertEqual(self.motion(x + 4, y + 9), self.drawn(further))

    def test_resizing_within_limits(self):
        program = self.programs[0]
        program.ask(self.window, "window", "least", 50, 35)
        program.ask(self.window, "window", "largest", 70, 45)
        self.hold(81, 61)
        self.assertEqual(self.carry_out(self.motion(181, 141)), self.drawn((18, 10, 74, 57)))
        self.assertEqual(self.carry_out(self.motion(0, 0)), self.drawn((18, 10, 54, 47)))

    def test_maximized_no_longer(self):
        self.stack.perform(0, ("frame", self.window, FRAME, True, (1, 2, 30, 40)))
        self.hold(20, 12)
        self.assertEqual(self.motion(21, 12), self.drawn((19, 10, 64, 52)))

    def test_held_behind_other_messages_and_slots(self):
        self.hold(20, 12)
        self.assertEqual(self.lost(), [])
        self.routing.forget_slot(1)
        self.assertEqual(self.motion(21, 12), self.drawn((19, 10, 64, 52)))

    def test_a_press_behind_it(self):
        self.hold(20, 12)
        self.release()
        self.motion(30, 30)
        self.press()
        self.assertEqual(self.motion(31, 32, 7), [(0, ("motion", 11, 12, 7))])

    def test_other_buttons_hold_nothing(self):
        self.hold(20, 12, 2)
        self.assertEqual(self.motion(25, 12), [])
        self.assertEqual(self.release(2), [])

    def test_a_further_button(self):
        self.hold(20, 12)
        self.assertEqual(self.press(2), [])
        self.assertEqual(self.carry_out(self.motion(21, 12)), self.drawn((19, 10, 64, 52)))
        self.assertEqual(self.release(1), [])
        self.assertEqual(self.carry_out(self.motion(22, 12)), self.drawn((20, 10, 64, 52)))
        self.assertEqual(self.release(2), [])
        self.assertEqual(self.motion(23, 12), [])

    def test_released(self):
        self.hold(20, 12)
        self.assertEqual(self.release(), [])
        self.assertEqual(self.motion(30, 12), [])
        self.hold(81, 61)
        self.assertEqual(self.release(), [])

    def test_what_is_looked_up_behind_it(self):
        other, surface = self.mapped(1, (100, 10, 64, 52))
        self.hold(20, 12)
        self.carry_out(self.motion(110, 30))
        self.stack.lift(1, other)
        self.assertEqual(self.release(1, 5), [(1, ("enter", surface, 8, 10))])

    def test_close(self):
        for x in (72, 81):
            self.hold(x, 19)
            self.motion(76, 10)
            self.assertEqual(self.release(), [(0, ("close", self.window))])

    def test_minimize(self):
        self.hold(52, 10)
        self.motion(61, 15)
        self.assertEqual(self.release(), [(0, ("hide", self.window)), (0, ("dismiss",))])

    def test_maximize_and_back(self):
        self.hold(62, 10)
        self.motion(71, 15)
        deeds = self.carry_out(self.release())
        self.assertEqual(deeds, [(0, ("frame", self.window, LEFT, True, FRAME)), (0, ("dismiss",))])
        self.paint()
        self.hold(185, 5)
        self.assertEqual(self.carry_out(self.release()), self.drawn(FRAME))

    def test_maximize_on_the_window_s_output(self):
        self.stack.perform(0, ("frame", self.window, (210, 10, 64, 52), False, None))
        self.paint()
        self.hold(255, 12)
        self.assertEqual(self.release()[0], (0, ("frame", self.window, RIGHT, True, (210, 10, 64, 52))))

    def test_maximize_without_room(self):
        for area in [(0, 0, 19, 100), (0, 0, 100, 27)]:
            with self.subTest(area=area):
                self.areas = [area]
                self.setUp_in(area)
                self.assertEqual(self.release(), [(0, ("dismiss",))])

    def setUp_in(self, area):
        self.stack = Stack()
        self.programs = [Program([area], slot, self.stack) for slot in range(3)]
        self.painted = Painted()
        self.routing = Routing([area])
        # Its part maximize lies in the output.
        self.window, self.surface = self.mapped(0, (-8, 2, 32, 28))
        self.hold(10, 4)

    def test_maximize_with_just_enough_room(self):
        self.setUp()
        self.areas = [(0, 0, 20, 28)]
        self.setUp_in((0, 0, 20, 28))
        self.assertEqual(self.release()[0], (0, ("frame", self.window, (0, 0, 20, 28), True, (-8, 2, 32, 28))))

    def test_released_over_another_part(self):
        for first, second in [((76, 12), (66, 12)), ((66, 12), (56, 12)), ((56, 12), (40, 12)), ((40, 12), (76, 12)),
                              ((76, 12), (81, 30)), ((76, 12), (76, 9)), ((76, 12), (82, 12)), ((76, 12), (50, 40))]:
            with self.subTest(first=first, second=second):
                self.setUp()
                self.hold(*first)
                self.routing.x, self.routing.y = second
                deeds = self.release()
                self.assertEqual([row for row in deeds if row[1][0] in ("close", "hide", "frame", "dismiss")], [])

    def test_motions_change_nothing_of_these(self):
        for x in (76, 66, 56):
            self.setUp()
            self.hold(x, 12)
            self.assertEqual(self.motion(x + 1, 13), [])
            self.assertEqual(self.motion(150, 120), [])

    def test_the_window_gone(self):
        for x, y in [(76, 12), (66, 12), (56, 12), (20, 12), (81, 61)]:
            for does_lose in (False, True):
                self.setUp()
                self.hold(x, y)
                self.stack.take(0, self.window)
                if does_lose:
                    self.assertEqual(self.lost(), [(0, ("unfocus", self.surface))])
                self.assertEqual(self.motion(x + 1, y), [])
                self.assertEqual(self.release(), [])

    def test_the_window_gone_and_there_again(self):
        self.hold(20, 12)
        placed = self.stack.find(0, self.window)
        self.stack.take(0, self.window)
        self.lost()
        self.stack.put(placed, True)
        self.assertEqual(self.motion(21, 12), [])

    def test_the_window_hidden(self):
        for x, y in [(76, 12), (66, 12), (56, 12), (20, 12), (81, 61)]:
            self.setUp()
            self.hold(x, y)
            self.set_hidden(0, self.window, True)
            self.assertEqual(self.motion(x + 1, y), [])
            self.assertEqual(self.release(), [])

    def test_maximized_in_between(self):
        # It is released at the same part of the frame as it is then.
        self.hold(66, 12)
        self.stack.perform(0, ("frame", self.window, LEFT, True, FRAME))
        self.assertEqual(self.release(), [])
        self.setUp()
        self.hold(66, 12)
        self.stack.perform(0, ("frame", self.window, LEFT, True, FRAME))
        self.motion(185, 5)
        self.assertEqual(self.release(), self.drawn(FRAME))

    def test_other_outputs(self):
        self.hold(20, 12)
        self.routing.outputs_changed([LEFT])
        self.assertEqual(self.motion(21, 12), self.drawn((19, 10, 64, 52)))
        self.areas = [(100, 0, 50, 50)]
        self.routing.outputs_changed(self.areas)
        self.assertEqual((self.routing.x, self.routing.y), (100, 12))
        self.assertEqual(self.motion(105, 12), [])

    def test_other_outputs_and_a_button_of_the_frame(self):
        self.hold(76, 12)
        self.areas = [(0, 0, 70, 150)]
        self.routing.outputs_changed(self.areas)
        self.areas = [LEFT]
        self.routing.outputs_changed(self.areas)
        self.motion(76, 12)
        self.assertEqual(self.release(), [])


class Outputs(RoutingTest):
    def test_the_nearest_point(self):
        self.motion(250, 100)
        self.routing.outputs_changed([(0, 0, 50, 50), (240, 0, 5, 5)])
        self.assertEqual((self.routing.x, self.routing.y), (244, 4))
        self.routing.outputs_changed([LEFT, RIGHT])
        self.assertEqual((self.routing.x, self.routing.y), (244, 4))

    def test_nothing_is_looked_up(self):
        _, surface = self.mapped(0)
        self.motion(30, 30)
        self.routing.outputs_changed([(100, 100, 20, 20)])
        self.assertEqual(self.routing.pointer_at, (0, surface))

    def test_a_grip_stays(self):
        _, surface = self.mapped(0)
        self.motion(30, 30)
        self.press()
        self.routing.outputs_changed([(0, 0, 25, 25)])
        self.assertIs(self.routing.has_grip(0), True)


class Keys(RoutingTest):
    def key(self, code, down, time=0):
        return self.routing.key(self.sight(), time, code, down)

    def test_without_focus(self):
        self.assertEqual(self.key(5, True), [])
        self.assertEqual(self.routing.codes, [5])
        self.assertEqual(self.key(5, False), [])
        self.assertEqual(self.routing.codes, [])

    def test_with_focus(self):
        window, _ = self.mapped(2)
        self.routing.switch(self.sight(), 2, window)
        self.assertEqual(self.key(5, True, 9), [(2, ("key", 5, 1, 9))])
        self.assertEqual(self.key(6, True, 9), [(2, ("key", 6, 1, 9))])
        self.assertEqual(self.key(5, True, 9), [])
        self.assertEqual(self.routing.codes, [5, 6])
        self.assertEqual(self.key(5, False, 10), [(2, ("key", 5, 0, 10))])
        self.assertEqual(self.key(5, False, 10), [])
        self.assertEqual(self.key(7, False, 10), [])
        self.assertEqual(self.routing.codes, [6])

    def test_another_focus(self):
        first, _ = self.mapped(0)
        second, _ = self.mapped(1, (100, 10, 64, 52))
        self.routing.switch(self.sight(), 0, first)
        self.key(5, True)
        self.routing.switch(self.sight(), 1, second)
        self.assertEqual(self.key(5, True), [])
        self.assertEqual(self.key(5, False), [(1, ("key", 5, 0, 0))])


class Switches(RoutingTest):
    def switch(self, slot, window):
        return self.routing.switch(self.sight(), slot, window)

    def test_a_switch(self):
        first, first_surface = self.mapped(0)
        second, second_surface = self.mapped(1)
        self.assertEqual(self.switch(0, first), [(0, ("unhide", first)), (0, ("lift", first))] + self.others(1, 2) + [
            (0, ("focus", first_surface)),
        ])
        self.assertEqual(self.switch(1, second), [
            (1, ("unhide", second)), (1, ("lift", second)), (0, ("dismiss",)), (2, ("dismiss",)),
            (0, ("unfocus", first_surface)), (1, ("focus", second_surface)),
        ])
        self.assertEqual(self.routing.focus, (1, second))

    def test_a_window_that_has_the_focus(self):
        window, surface = self.mapped(0)
        self.switch(0, window)
        deeds = [(0, ("unhide", window)), (0, ("lift", window))] + self.others(1, 2)
        self.assertEqual(self.switch(0, window), deeds)

    def test_a_hidden_window(self):
        window, surface = self.mapped(0)
        self.set_hidden(0, window, True)
        deeds = self.carry_out(self.switch(0, window))
        self.assertEqual(deeds[-1], (0, ("focus", surface)))
        self.assertEqual(self.lost(), [])
        self.assertEqual(self.routing.focus, (0, window))

    def test_nothing(self):
        window, surface = self.mapped(0)
        other, _ = self.programs[0].window()
        for slot, number in [(0, other), (0, 999), (1, window), (3, window)]:
            self.assertEqual(self.switch(slot, number), [])
            self.assertIsNone(self.routing.focus)
        sight = self.sight()
        sight.desks[0] = None
        self.assertEqual(self.routing.switch(sight, 0, window), [])

    def test_the_pointer_stays(self):
        window, surface = self.mapped(0)
        self.motion(30, 30)
        self.switch(0, window)
        self.assertEqual(self.routing.pointer_at, (0, surface))


class Lost(RoutingTest):
    def setUp(self):
        super().setUp()
        self.window, self.surface = self.mapped(0)
        self.other, self.other_surface = self.mapped(1, (100, 10, 64, 52))
        self.motion(30, 30)
        self.press()

    def test_nothing_is_lost(self):
        self.assertEqual(self.lost(), [])
        self.assertEqual(self.routing.focus, (0, self.window))
        self.assertEqual(self.routing.pointer_at, (0, self.surface))
        self.assertIs(self.routing.has_grip(0), True)

    def check_all_lost(self):
        self.assertEqual(self.lost(), [(0, ("unfocus", self.surface))])
        self.assertEqual((self.routing.focus, self.routing.pointer_at), (None, None))
        self.assertIs(self.routing.has_grip(0), False)
        self.assertEqual(self.lost(), [])
        self.assertEqual(self.motion(31, 31), [])
        self.assertEqual(self.routing.axis(self.sight(), 1, 1, 1), [])

    def test_what_can_be_lost(self):
        self.assertIs(Routing(self.areas).has_anything(), False)
        self.assertIs(self.routing.has_anything(), True)
        self.stack.take(0, self.window)
        self.assertIs(self.routing.has_anything(), True)
        self.lost()
        self.assertIs(self.routing.has_anything(), False)

    def test_one_thing_that_can_be_lost(self):
        self.routing.forget_slot(0)
        self.release()
        self.assertEqual((self.routing.focus, self.routing.pointer_at), (None, (0, self.surface)))
        self.assertIs(self.routing.has_anything(), True)
        self.motion(299, 0)
        self.assertEqual((self.routing.focus, self.routing.pointer_at), (None, None))
        self.assertIs(self.routing.has_anything(), False)
        self.routing.switch(self.sight(), 1, self.other)
        self.assertEqual((self.routing.focus, self.routing.pointer_at), ((1, self.other), None))
        self.assertIs(self.routing.has_anything(), True)

    def test_a_grip_alone_can_be_lost(self):
        self.stack.take(0, self.window)
        self.stack.perform(0, ("map", self.window, FRAME, False, None, True))
        self.routing.pointer_at = None
        self.routing.focus = None
        self.assertIs(self.routing.has_grip(0), True)
        self.assertIs(self.routing.has_anything(), True)

    def test_a_window_that_is_unmapped(self):
        self.stack.take(0, self.window)
        self.check_all_lost()
        # The first press was at a settled point, so it is looked up behind the last release.
        self.motion(110, 30)
        self.assertEqual(self.release(), [(1, ("enter", self.other_surface, 8, 10))])

    def test_a_window_that_is_hidden(self):
        self.set_hidden(0, self.window, True)
        self.check_all_lost()

    def test_a_window_that_is_destroyed(self):
        self.programs[0].ask(self.window, "window", "destroy")
        self.assertIsNone(self.stack.find(0, self.window))
        self.check_all_lost()

    def test_a_covered_window_is_shown(self):
        self.mapped(2)
        self.assertEqual(self.lost(), [])
        self.assertEqual(self.routing.focus, (0, self.window))

    def test_an_inner_surface(self):
        self.release()
        program = self.programs[0]
        sub, inner = program.inner(self.surface, 10, 10)
        program.commit(self.surface)
        self.motion(23, 23)
        self.press()
        self.assertEqual(self.routing.pointer_at, (0, inner))
        program.ask(sub, "sub", "destroy")
        self.assertEqual(self.lost(), [])
        self.assertEqual(self.routing.focus, (0, self.window))
        self.assertIsNone(self.routing.pointer_at)
        self.assertIs(self.routing.has_grip(0), False)

    def test_the_pointer_alone(self):
        self.motion(110, 30)
        self.release()
        self.assertEqual(self.routing.pointer_at, (1, self.other_surface))
        self.stack.take(1, self.other)
        self.assertEqual(self.lost(), [])
        self.assertEqual((self.routing.focus, self.routing.pointer_at), ((0, self.window), None))

    def test_the_focus_alone(self):
        self.motion(110, 30)
        self.release()
        self.stack.take(0, self.window)
        self.assertEqual(self.lost(), [(0, ("unfocus", self.surface))])
        self.assertEqual(self.routing.pointer_at, (1, self.other_surface))

    def test_popups(self):
        self.release()
        for granted in (False, True):
            program = self.programs[0]
            make = program.granted_popup if granted else program.popup
            popup, surface = make(self.window, at(30, 10, 10, 10))
            program.show(surface, 10, 10)
            self.paint()
            self.motion(55, 35)
            self.assertEqual(self.routing.pointer_at, (0, surface))
            self.press()
            self.assertEqual(self.lost(), [])
            self.assertIs(self.routing.has_grip(0), True)
            program.ask(popup, "popup", "destroy")
            self.assertEqual(self.lost(), [])
            self.assertIsNone(self.routing.pointer_at)
            self.assertIs(self.routing.has_grip(0), False)
            self.release()


class ForgottenSlots(RoutingTest):
    def test_a_slot_that_has_all(self):
        window, surface = self.mapped(0)
        self.motion(30, 30)
        self.press()
        self.routing.forget_slot(1)
        self.assertEqual(self.routing.focus, (0, window))
        self.assertIs(self.routing.has_grip(0), True)
        self.routing.forget_slot(0)
        self.assertEqual((self.routing.focus, self.routing.pointer_at), (None, None))
        self.assertIs(self.routing.has_grip(0), False)
        self.assertEqual(self.routing.buttons, [1])
        self.assertEqual(self.lost(), [])

    def test_a_slot_that_has_nothing(self):
        for slot in range(4):
            self.routing.forget_slot(slot)
        self.assertEqual((self.routing.focus, self.routing.pointer_at), (None, None))

    def test_a_held_frame(self):
        self.mapped(0)
        self.motion(20, 12)
        self.press()
        self.routing.forget_slot(0)
        self.assertEqual(self.motion(25, 12), [])

    def test_what_other_slots_have(self):
        first, _ = self.mapped(0)
        _, second = self.mapped(1, (100, 10, 64, 52))
        self.routing.switch(self.sight(), 0, first)
        self.motion(110, 30)
        self.routing.forget_slot(0)
        self.assertEqual((self.routing.focus, self.routing.pointer_at), (None, (1, second)))


if __name__ == "__main__":
    unittest.main()
