"""Points 59 and 60: the scene, what windows cover, and what is hit."""

import unittest

from sillwatch.devices.scenes import SceneWindow, Shown, covers_of, hit_at, scene_of, top_cover
from sillwatch.windows.stack import Stack
from tests.program import Program, at

LEFT, RIGHT = (0, 0, 200, 150), (200, 0, 100, 150)


class ScenesTest(unittest.TestCase):
    def setUp(self):
        self.areas = [LEFT, RIGHT]
        self.stack = Stack()
        self.programs = [Program(self.areas, slot, self.stack) for slot in range(4)]

    def lists(self):
        return (
            [program.painting for program in self.programs], [program.desk for program in self.programs],
            [program.view() for program in self.programs],
        )

    def scene(self):
        return scene_of(self.stack, *self.lists())

    def rows(self):
        """Return the scene as plain values."""
        return [
            (shown.slot, shown.window, shown.frame, [self.fields(row) for row in shown.plain],
             [(place, [self.fields(row) for row in rows]) for place, rows in shown.granted])
            for shown in self.scene()
        ]

    def fields(self, shown):
        return shown.surface, shown.x, shown.y, shown.clip

    def hit(self, x, y):
        return hit_at(self.scene(), [program.painting for program in self.programs], x, y)

    def mapped(self, slot, frame, width=None, height=None):
        """Map a window at a frame on top, with a picture of a size, or as large as its inside."""
        program = self.programs[slot]
        width = frame[2] - 4 if width is None else width
        height = frame[3] - 12 if height is None else height
        window, surface = program.mapped(width, height)
        self.stack.perform(slot, ("map", window, frame, False, None, True))
        return window, surface

    def popup(self, slot, parent, positioner, granted, width=None, height=None):
        program = self.programs[slot]
        make = program.granted_popup if granted else program.popup
        number, surface = make(parent, positioner)
        program.show(surface, positioner[8] if width is None else width, positioner[9] if height is None else height)
        return number, surface

    def hears(self, slot, surface, *rectangles):
        """Let a surface hear in rectangles alone."""
        program = self.programs[slot]
        program.ask(surface, "surface", "hears", program.region(*rectangles))
        program.commit(surface)


class Scene(ScenesTest):
    def test_fields(self):
        shown = Shown(1, 2, 3, (4, 5, 6, 7))
        self.assertEqual(self.fields(shown), (1, 2, 3, (4, 5, 6, 7)))
        window = SceneWindow(1, 2, (3, 4, 5, 6), [shown], [((1, 1, 1, 1), [shown])])
        self.assertEqual(
            (window.slot, window.window, window.frame, window.plain, window.granted),
            (1, 2, (3, 4, 5, 6), [shown], [((1, 1, 1, 1), [shown])]),
        )

    def test_empty(self):
        self.assertEqual(self.rows(), [])
        self.assertEqual(scene_of(Stack(), [None] * 4, [None] * 4, [None] * 4), [])

    def test_slots_without_a_program(self):
        window, surface = self.mapped(2, (10, 10, 44, 42))
        paintings, desks, views = [[None, None, row[2], None] for row in self.lists()]
        scene = scene_of(self.stack, paintings, desks, views)
        self.assertEqual([(shown.slot, shown.window) for shown in scene], [(2, window)])

    def test_order_of_the_stack(self):
        a, _ = self.mapped(0, (10, 10, 24, 28))
        b, _ = self.mapped(1, (10, 10, 24, 28))
        c, _ = self.mapped(0, (10, 10, 24, 28))
        self.assertEqual([row[:2] for row in self.rows()], [(0, a), (1, b), (0, c)])
        self.stack.lift(0, a)
        self.assertEqual([row[:2] for row in self.rows()], [(1, b), (0, c), (0, a)])

    def test_hidden_windows(self):
        a, _ = self.mapped(0, (10, 10, 24, 28))
        b, _ = self.mapped(1, (10, 10, 24, 28))
        self.stack.find(0, a).hidden = True
        self.assertEqual([row[:2] for row in self.rows()], [(1, b)])

    def test_trees_and_popups(self):
        window, surface = self.mapped(0, (10, 10, 44, 42))
        program = self.programs[0]
        sub, inner = program.inner(surface, 5, 5)
        program.ask(sub, "sub", "place", 38, -2)
        program.commit(surface)
        granted, granted_surface = self.popup(0, window, at(-22, 0, 20, 10), True)
        plain, plain_surface = self.popup(0, window, at(35, 5, 10, 10), False)
        outside, _ = self.popup(0, window, at(-500, 0, 5, 5), True)
        inside = (12, 20, 40, 30)
        self.assertEqual(self.rows(), [(0, window, (10, 10, 44, 42), [
            (surface, 12, 20, inside), (inner, 50, 18, inside), (plain_surface, 47, 25, (47, 25, 5, 10)),
        ], [((0, 20, 10, 10), [(granted_surface, -10, 20, (0, 20, 10, 10))])])])

    def test_a_popup_outside_of_the_inside(self):
        window, surface = self.mapped(0, (10, 10, 44, 42))
        _, plain = self.popup(0, window, at(60, 5, 10, 10), False)
        row = self.scene()[0].plain[1]
        self.assertEqual((row.surface, row.x, row.y), (plain, 72, 25))
        self.assertEqual(row.clip[2] * row.clip[3], 0)

    def test_the_output_of_a_window(self):
        window, _ = self.mapped(0, (190, 10, 44, 42))
        _, surface = self.popup(0, window, at(0, 0, 20, 10), True)
        self.assertEqual(self.rows()[0][4], [((192, 20, 8, 10), [(surface, 192, 20, (192, 20, 8, 10))])])


class Covers(ScenesTest):
    def covers(self):
        return covers_of(self.scene(), self.areas)

    def squares(self, rectangles):
        return {(a, b) for x, y, w, h in rectangles for a in range(x, x + w) for b in range(y, y + h)}

    def test_frames(self):
        a, _ = self.mapped(0, (10, 10, 24, 28))
        b, _ = self.mapped(1, (-5, 140, 24, 28))
        self.assertEqual(self.covers(), [
            (0, a, (10, 10, 24, 28), [(10, 10, 24, 28)]), (1, b, (-5, 140, 24, 28), [(0, 140, 19, 10)]),
        ])

    def test_over_two_outputs(self):
        a, _ = self.mapped(0, (190, -5, 24, 28))
        cover = self.covers()[0]
        self.assertEqual(cover[:3], (0, a, (190, -5, 24, 28)))
        self.assertEqual(self.squares(cover[3]), self.squares([(190, 0, 24, 23)]))

    def test_outside_of_all_outputs(self):
        a, _ = self.mapped(0, (500, 10, 24, 28))
        self.assertEqual(self.covers(), [(0, a, (500, 10, 24, 28), [])])

    def test_popups_with_a_grant(self):
        window, _ = self.mapped(0, (100, 100, 44, 42))
        self.popup(0, window, at(0, -60, 20, 10), True)
        self.popup(0, window, at(-20, 10, 5, 5), False)
        cover = self.covers()[0]
        self.assertEqual(self.squares(cover[3]), self.squares([(100, 100, 44, 42), (100, 48, 24, 14)]))

    def test_the_border_is_not_cut_to_the_windows_output(self):
        window, _ = self.mapped(0, (150, 20, 44, 42))
        self.popup(0, window, at(40, -25, 30, 10), True)
        # The place is (192, 5, 30, 10), of which 8 columns lie in the output; the border reaches into the next one.
        cover = self.covers()[0]
        self.assertEqual(self.squares(cover[3]), self.squares([(150, 20, 44, 42), (190, 3, 12, 14)]))

    def test_the_border_is_cut_to_the_outputs(self):
        window, _ = self.mapped(0, (0, 0, 44, 42))
        self.popup(0, window, at(-2, 130, 30, 40), True)
        cover = self.covers()[0]
        self.assertEqual(self.squares(cover[3]), self.squares([(0, 0, 44, 42), (0, 138, 32, 12)]))

    def test_a_popup_with_nothing_in_the_output(self):
        window, _ = self.mapped(0, (150, 20, 44, 42))
        self.popup(0, window, at(48, 0, 30, 10), True)
        self.assertEqual(self.covers()[0][3], [(150, 20, 44, 42)])

    def test_top_cover(self):
        self.mapped(0, (10, 10, 24, 28))
        self.mapped(1, (20, 20, 24, 28))
        covers = self.covers()
        for x, y, at_place in [(10, 10, 0), (19, 20, 0), (20, 20, 1), (33, 37, 1), (43, 47, 1), (33, 19, 0)]:
            self.assertEqual(top_cover(covers, x, y), covers[at_place])
        for x, y in [(9, 10), (10, 9), (44, 47), (43, 48), (34, 19), (19, 38)]:
            self.assertIsNone(top_cover(covers, x, y))
        self.assertIsNone(top_cover([], 0, 0))
        rows = [(0, 5, (0, 0, 9, 9), [(0, 0, 2, 2), (5, 5, 2, 2)]), (1, 5, (0, 0, 9, 9), [])]
        self.assertEqual(top_cover(rows, 6, 6), rows[0])
        self.assertIsNone(top_cover(rows, 3, 3))
        self.assertEqual(len(rows), 2)


class Hits(ScenesTest):
    def test_nothing(self):
        self.assertIsNone(self.hit(5, 5))
        self.mapped(0, (10, 10, 24, 28))
        for x, y in [(9, 10), (10, 9), (34, 20), (20, 38)]:
            self.assertIsNone(self.hit(x, y))

    def test_frame_and_inside(self):
        window, surface = self.mapped(0, (10, 10, 44, 42))
        for x, y in [(10, 10), (53, 10), (10, 51), (53, 51), (30, 19), (11, 20), (52, 20), (30, 50)]:
            self.assertEqual(self.hit(x, y), ("frame", 0, window, 0, 0, 0))
        for x, y in [(12, 20), (51, 20), (12, 49), (51, 49), (30, 30)]:
            self.assertEqual(self.hit(x, y), ("surface", 0, window, surface, x - 12, y - 20))

    def test_the_ground(self):
        window, surface = self.mapped(0, (10, 10, 44, 42), 20, 10)
        self.assertEqual(self.hit(31, 29), ("surface", 0, window, surface, 19, 9))
        for x, y in [(32, 29), (31, 30), (51, 49)]:
            self.assertEqual(self.hit(x, y), ("ground", 0, window, 0, 0, 0))
        self.hears(0, surface, (5, 5, 2, 2))
        self.assertEqual(self.hit(17, 25), ("surface", 0, window, surface, 5, 5))
        for x, y in [(16, 25), (17, 24), (19, 25), (17, 27)]:
            self.assertEqual(self.hit(x, y), ("ground", 0, window, 0, 0, 0))

    def test_trees(self):
        window, surface = self.mapped(0, (10, 10, 44, 42))
        program = self.programs[0]
        subs = [program.inner(surface, 10, 10) for _ in range(2)]
        program.ask(subs[0][0], "sub", "place", 30, 25)
        program.ask(subs[1][0], "sub", "place", 35, 25)
        program.commit(surface)
        self.assertEqual(self.hit(42, 45), ("surface", 0, window, subs[0][1], 0, 0))
        self.assertEqual(self.hit(47, 45), ("surface", 0, window, subs[1][1], 0, 0))
        self.assertEqual(self.hit(51, 49), ("surface", 0, window, subs[1][1], 4, 4))
        self.assertEqual(self.hit(52, 49), ("frame", 0, window, 0, 0, 0))
        self.hears(0, subs[1][1])
        program.commit(surface)
        self.assertEqual(self.hit(47, 45), ("surface", 0, window, subs[0][1], 5, 0))
        program.ask(subs[0][0], "sub", "below", surface)
        program.commit(surface)
        self.assertEqual(self.hit(47, 45), ("surface", 0, window, surface, 35, 25))

    def test_windows_over_windows(self):
        a, a_surface = self.mapped(0, (10, 10, 44, 42))
        b, b_surface = self.mapped(1, (30, 30, 44, 42))
        self.assertEqual(self.hit(29, 35), ("surface", 0, a, a_surface, 17, 15))
        self.assertEqual(self.hit(30, 35), ("frame", 1, b, 0, 0, 0))
        self.hears(1, b_surface)
        self.assertEqual(self.hit(40, 45), ("ground", 1, b, 0, 0, 0))
        self.stack.lift(0, a)
        self.assertEqual(self.hit(40, 45), ("surface", 0, a, a_surface, 28, 25))
        self.stack.find(0, a).hidden = True
        self.assertEqual(self.hit(40, 45), ("ground", 1, b, 0, 0, 0))
        self.assertIsNone(self.hit(20, 20))

    def test_plain_popups(self):
        window, surface = self.mapped(0, (10, 10, 44, 42))
        first, a = self.popup(0, window, at(30, 20, 20, 20), False, 15, 20)
        self.assertEqual(self.hit(42, 40), ("surface", 0, window, a, 0, 0))
        self.assertEqual(self.hit(51, 49), ("surface", 0, window, a, 9, 9))
        for x, y in [(52, 45), (45, 50)]:
            self.assertEqual(self.hit(x, y), ("frame", 0, window, 0, 0, 0))
        self.assertEqual(self.hit(41, 40), ("surface", 0, window, surface, 29, 20))
        second, b = self.popup(0, window, at(35, 25, 5, 2), False, 9, 9)
        self.assertEqual(self.hit(47, 45), ("surface", 0, window, b, 0, 0))
        self.assertEqual(self.hit(51, 46), ("surface", 0, window, b, 4, 1))
        self.assertEqual(self.hit(51, 47), ("surface", 0, window, a, 9, 7))
        self.hears(0, b)
        self.assertEqual(self.hit(47, 45), ("surface", 0, window, a, 5, 5))

    def test_where_a_plain_popup_is_larger_than_its_surface(self):
        window, surface = self.mapped(0, (10, 10, 44, 42))
        self.popup(0, window, at(0, 0, 20, 20), False, 5, 5)
        self.assertEqual(self.hit(16, 26), ("surface", 0, window, surface, 4, 6))
        self.hears(0, surface)
        self.assertEqual(self.hit(17, 27), ("ground", 0, window, 0, 0, 0))

    def test_granted_popups(self):
        window, surface = self.mapped(0, (10, 10, 44, 42))
        popup, a = self.popup(0, window, at(30, 20, 20, 30), True, 10, 40)
        # The place is (42, 40, 20, 30), with a border of 2 around it.
        for x, y, expected in [
            (42, 40, ("surface", 0, window, a, 0, 0)), (51, 69, ("surface", 0, window, a, 9, 29)),
            (52, 69, ("ground", 0, window, 0, 0, 0)), (61, 40, ("ground", 0, window, 0, 0, 0)),
            (40, 38, ("ground", 0, window, 0, 0, 0)), (63, 71, ("ground", 0, window, 0, 0, 0)),
            (39, 38, ("surface", 0, window, surface, 27, 18)), (40, 37, ("surface", 0, window, surface, 28, 17)),
            (64, 71, None), (63, 72, None), (53, 39, ("ground", 0, window, 0, 0, 0)),
            (53, 37, ("frame", 0, window, 0, 0, 0)),
        ]:
            self.assertEqual(self.hit(x, y), expected)

    def test_one_granted_popup_over_another(self):
        window, surface = self.mapped(0, (10, 10, 44, 42))
        _, a = self.popup(0, window, at(60, 0, 20, 20), True)
        _, b = self.popup(0, window, at(70, 0, 20, 20), True)
        self.assertEqual(self.hit(82, 20), ("surface", 0, window, b, 0, 0))
        # The border of the upper one lies over the lower one, but the lower one's surface hears there.
        self.assertEqual(self.hit(81, 20), ("surface", 0, window, a, 9, 0))
        self.hears(0, b)
        self.assertEqual(self.hit(82, 20), ("surface", 0, window, a, 10, 0))
        self.hears(0, a)
        self.assertEqual(self.hit(82, 20), ("ground", 0, window, 0, 0, 0))

    def test_a_tree_of_a_granted_popup(self):
        window, surface = self.mapped(0, (10, 10, 44, 42))
        popup, a = self.popup(0, window, at(60, 0, 20, 20), True, 10, 10)
        program = self.programs[0]
        sub, inner = program.inner(a, 20, 20)
        program.ask(sub, "sub", "place", 8, 8)
        program.commit(a)
        self.assertEqual(self.hit(79, 27), ("surface", 0, window, a, 7, 7))
        self.assertEqual(self.hit(80, 28), ("surface", 0, window, inner, 0, 0))
        self.assertEqual(self.hit(91, 39), ("surface", 0, window, inner, 11, 11))
        self.assertEqual(self.hit(92, 39), ("ground", 0, window, 0, 0, 0))

    def test_cut_by_the_output(self):
        window, surface = self.mapped(0, (150, 20, 44, 42))
        popup, a = self.popup(0, window, at(40, -25, 30, 10), True)
        self.assertEqual(self.hit(199, 5), ("surface", 0, window, a, 7, 0))
        for x in (200, 201):
            self.assertEqual(self.hit(x, 5), ("ground", 0, window, 0, 0, 0))
        self.assertIsNone(self.hit(202, 5))

    def test_nothing_in_the_output(self):
        window, surface = self.mapped(0, (150, 20, 44, 42))
        popup, a = self.popup(0, window, at(48, -20, 30, 10), True)
        for x in (198, 199, 200, 205):
            self.assertIsNone(self.hit(x, 15))

    def test_borders_over_other_windows(self):
        b, b_surface = self.mapped(1, (60, 10, 44, 42))
        a, _ = self.mapped(0, (10, 10, 44, 42))
        popup, surface = self.popup(0, a, at(60, 10, 10, 10), True)
        self.assertEqual(self.hit(72, 30), ("surface", 0, a, surface, 0, 0))
        self.assertEqual(self.hit(70, 28), ("ground", 0, a, 0, 0, 0))
        self.assertEqual(self.hit(69, 28), ("surface", 1, b, b_surface, 7, 8))
        self.stack.lift(1, b)
        self.assertEqual(self.hit(72, 30), ("surface", 1, b, b_surface, 10, 10))
        self.stack.find(0, a).hidden = True
        self.stack.lift(0, a)
        self.assertEqual(self.hit(72, 30), ("surface", 1, b, b_surface, 10, 10))


if __name__ == "__main__":
    unittest.main()
