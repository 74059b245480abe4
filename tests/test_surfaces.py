"""Points 27, 28 and 31 to 36: surfaces, their drafts and commits, callbacks, and the end of a surface."""

import unittest

from sillwatch.objects.replies import Reply
from sillwatch.surfaces.painting import Painting
from tests.helpers import ask
from tests.program import COMPOSITOR, MEMORY, Program

TOP = 2 ** 32 - 1


def values_of(content):
    picture = content.picture
    shape = None if picture is None else (picture.width, picture.height, picture.pixels)
    return shape, content.turn, content.scale, content.hears, content.order, content.places


class SurfacesTest(unittest.TestCase):
    def setUp(self):
        self.program = Program()
        self.painting = self.program.painting

    def ask(self, surface, name, *arguments):
        return self.program.ask(surface, "surface", name, *arguments)

    def content(self, surface):
        return values_of(self.painting.content_of(surface))

    def refuse(self, expected, surface, name, *arguments):
        """Check that a request is a fault and changes nothing."""
        before = ([self.content(number) for number in self.painting.surfaces()], self.painting.pixel_count())
        self.assertEqual(self.ask(surface, name, *arguments), (surface, *expected))
        after = ([self.content(number) for number in self.painting.surfaces()], self.painting.pixel_count())
        self.assertEqual(after, before)


class Making(SurfacesTest):
    def test_new_painting(self):
        self.assertEqual(self.painting.surfaces(), [])
        self.assertEqual(self.painting.pixel_count(), 0)
        self.assertEqual(self.painting.take_callbacks(), [])

    def test_a_new_surface(self):
        surface = self.program.surface()
        self.assertEqual(self.content(surface), (None, 0, 1, None, [surface], {}))
        self.assertIsNone(self.painting.size_of(surface))
        self.assertEqual(self.painting.tree_of(surface), [])
        self.assertIs(self.painting.hears_at(surface, 0, 0), False)

    def test_in_order(self):
        for number in [30, 20, 40]:
            self.program.ask(COMPOSITOR, "compositor", "surface", number)
        self.assertEqual(self.painting.surfaces(), [30, 20, 40])
        self.ask(20, "destroy")
        self.program.ask(COMPOSITOR, "compositor", "surface", 20)
        numbers = self.painting.surfaces()
        self.assertEqual(numbers, [30, 40, 20])
        numbers.append(9)
        self.assertEqual(self.painting.surfaces(), [30, 40, 20])

    def test_how_many(self):
        numbers = [self.program.surface() for _ in range(32)]
        made = self.program.ask(41, "compositor", "surface", 999)
        self.assertEqual(made, (41, 5, "too many surfaces"))
        self.assertEqual(self.painting.surfaces(), numbers)
        self.ask(numbers[4], "destroy")
        self.assertEqual(self.program.ask(41, "compositor", "surface", 999), [])

    def test_destroying_globals_changes_nothing(self):
        surface = self.program.surface()
        self.program.show(surface, 4, 4)
        _, other = self.program.inner(surface)
        before = self.content(surface)
        for number, interface in [(3, "memory"), (4, "compositor"), (5, "joiner")]:
            self.assertEqual(self.program.ask(number, interface, "destroy"), [])
        self.assertEqual(self.content(surface), before)
        self.assertEqual(self.painting.surfaces(), [surface, other])

    def test_buffers_and_regions_are_served(self):
        buffer = self.program.buffer(3, 2, 7)
        region = self.program.region((0, 0, 2, 2))
        self.assertEqual(self.painting.buffers.picture_of(buffer).pixels, [7] * 6)
        self.assertEqual(self.painting.buffers.region_of(region), [(0, 2, ((0, 2),))])
        self.assertEqual(self.painting.pixel_count(), 6)


class Drafts(SurfacesTest):
    def setUp(self):
        super().setUp()
        self.surface = self.program.surface()

    def test_nothing_before_the_commit(self):
        self.program.attach(self.surface, 4, 2, 9)
        region = self.program.region((0, 0, 1, 1))
        self.ask(self.surface, "hears", region)
        self.ask(self.surface, "turn", 3)
        self.ask(self.surface, "scale", 2)
        self.assertEqual(self.content(self.surface), (None, 0, 1, None, [self.surface], {}))
        self.program.commit(self.surface)
        hears = [(0, 1, ((0, 1),))]
        self.assertEqual(self.content(self.surface), ((4, 2, [9] * 8), 3, 2, hears, [self.surface], {}))
        self.assertEqual(self.painting.size_of(self.surface), (1, 2))

    def test_what_is_not_said_stays(self):
        self.test_nothing_before_the_commit()
        before = self.content(self.surface)
        self.assertEqual(self.program.commit(self.surface), [])
        self.assertEqual(self.content(self.surface), before)
        self.ask(self.surface, "turn", 0)
        self.program.commit(self.surface)
        self.assertEqual(self.content(self.surface), (before[0], 0, *before[2:]))

    def test_later_requests_replace(self):
        first, second = self.program.buffer(1, 1, 1), self.program.buffer(2, 2, 2)
        for buffer in [first, second]:
            self.ask(self.surface, "attach", buffer)
        for number in [7, 2]:
            self.ask(self.surface, "turn", number)
        for number in [4, 2]:
            self.ask(self.surface, "scale", number)
        self.ask(self.surface, "hears", self.program.region((0, 0, 9, 9)))
        self.ask(self.surface, "hears", 0)
        self.assertEqual(self.program.commit(self.surface), [(second, "release")])
        self.assertEqual(self.content(self.surface)[:4], ((2, 2, [2] * 4), 2, 2, None))

    def test_attach_none(self):
        self.program.show(self.surface, 3, 3)
        self.ask(self.surface, "attach", 0)
        self.assertEqual(self.painting.size_of(self.surface), (3, 3))
        self.assertEqual(self.program.commit(self.surface), [])
        self.assertIsNone(self.painting.size_of(self.surface))
        self.assertEqual(self.painting.tree_of(self.surface), [])
        self.program.attach(self.surface, 2, 2)
        self.ask(self.surface, "attach", 0)
        self.assertEqual(self.program.commit(self.surface), [])
        self.assertIsNone(self.painting.size_of(self.surface))

    def test_the_buffer_at_the_commit(self):
        buffer = self.program.attach(self.surface, 2, 1, 5)
        self.program.ask(buffer, "buffer", "fill", 0, 0, 1, 1, 6)
        self.assertEqual(self.program.commit(self.surface), [(buffer, "release")])
        self.program.ask(buffer, "buffer", "fill", 0, 0, 2, 2, 8)
        self.assertEqual(self.content(self.surface)[0], (2, 1, [6, 5]))
        self.assertEqual(self.program.commit(self.surface), [])
        self.assertEqual(self.content(self.surface)[0], (2, 1, [6, 5]))
        self.ask(self.surface, "attach", buffer)
        self.assertEqual(self.program.commit(self.surface), [(buffer, "release")])
        self.assertEqual(self.content(self.surface)[0], (2, 1, [8, 8]))

    def test_a_buffer_that_is_destroyed(self):
        self.program.show(self.surface, 3, 3, 4)
        buffer = self.program.attach(self.surface, 2, 2)
        self.ask(self.surface, "turn", 1)
        self.program.ask(buffer, "buffer", "destroy")
        self.assertEqual(self.program.commit(self.surface), [])
        self.assertEqual(self.content(self.surface)[:2], ((3, 3, [4] * 9), 1))

    def test_another_buffer_with_its_number(self):
        buffer = self.program.attach(self.surface, 2, 2)
        self.program.ask(buffer, "buffer", "destroy")
        self.program.ask(MEMORY, "memory", "buffer", buffer, 1, 1)
        self.assertEqual(self.program.commit(self.surface), [])
        self.assertIsNone(self.painting.size_of(self.surface))

    def test_another_buffer_that_is_destroyed(self):
        buffer = self.program.attach(self.surface, 2, 2)
        other = self.program.buffer(1, 1)
        self.program.ask(other, "buffer", "destroy")
        self.assertEqual(self.program.commit(self.surface), [(buffer, "release")])

    def test_one_buffer_for_two_surfaces(self):
        other = self.program.surface()
        buffer = self.program.attach(self.surface, 2, 2)
        self.ask(other, "attach", buffer)
        self.assertEqual(self.program.commit(self.surface), [(buffer, "release")])
        self.assertEqual(self.program.commit(other), [(buffer, "release")])
        self.ask(self.surface, "attach", buffer)
        self.ask(other, "attach", buffer)
        self.program.ask(buffer, "buffer", "destroy")
        self.assertEqual(self.program.commit(self.surface), [])
        self.assertEqual(self.program.commit(other), [])
        self.assertEqual(self.painting.size_of(other), (2, 2))

    def test_a_region_that_changes_behind_hears(self):
        region = self.program.region((0, 0, 3, 3))
        self.ask(self.surface, "hears", region)
        self.program.ask(region, "region", "add", 5, 0, 1, 1)
        self.program.commit(self.surface)
        self.assertEqual(self.content(self.surface)[3], [(0, 3, ((0, 3),))])
        self.program.ask(region, "region", "subtract", 0, 0, 9, 9)
        self.assertEqual(self.content(self.surface)[3], [(0, 3, ((0, 3),))])
        self.ask(self.surface, "hears", region)
        self.program.ask(region, "region", "destroy")
        self.program.commit(self.surface)
        self.assertEqual(self.content(self.surface)[3], [])
        self.ask(self.surface, "hears", 0)
        self.program.commit(self.surface)
        self.assertIsNone(self.content(self.surface)[3])

    def test_turns(self):
        for number in range(8):
            self.assertEqual(self.ask(self.surface, "turn", number), [])
            self.program.commit(self.surface)
            self.assertEqual(self.content(self.surface)[1], number)
        for number in [8, 9, TOP]:
            self.refuse((10, "bad turn"), self.surface, "turn", number)
        self.program.commit(self.surface)
        self.assertEqual(self.content(self.surface)[1], 7)

    def test_scales(self):
        for number in range(1, 5):
            self.assertEqual(self.ask(self.surface, "scale", number), [])
            self.program.commit(self.surface)
            self.assertEqual(self.content(self.surface)[2], number)
        for number in [0, 5, 6, TOP]:
            self.refuse((11, "bad scale"), self.surface, "scale", number)
        self.program.commit(self.surface)
        self.assertEqual(self.content(self.surface)[2], 4)

    def test_told_of_commits(self):
        self.program.commit(self.surface)
        self.assertEqual(self.program.applied, [self.surface])
        reply = Reply()
        self.painting.serve(ask(self.surface, "surface", "turn", 1), reply)
        self.assertEqual((reply.applied, reply.told, reply.ended, reply.wishes), ([], [], [], []))


class Commits(SurfacesTest):
    def setUp(self):
        super().setUp()
        self.surface = self.program.surface()

    def test_bad_size(self):
        for width, height, scale in [(4, 3, 2), (3, 4, 2), (6, 4, 3), (8, 10, 4), (1, 1, 2)]:
            surface = self.program.surface()
            self.program.attach(surface, width, height)
            self.ask(surface, "scale", scale)
            self.refuse((1, "bad size"), surface, "commit")

    def test_bad_size_by_a_picture_or_a_scale_alone(self):
        self.program.show(self.surface, 4, 4)
        self.ask(self.surface, "scale", 3)
        self.refuse((1, "bad size"), self.surface, "commit")
        self.ask(self.surface, "scale", 2)
        self.assertEqual(self.program.commit(self.surface), [])
        self.program.attach(self.surface, 3, 4)
        self.refuse((1, "bad size"), self.surface, "commit")
        self.ask(self.surface, "attach", 0)
        self.assertEqual(self.program.commit(self.surface), [])
        self.ask(self.surface, "scale", 3)
        self.assertEqual(self.program.commit(self.surface), [])

    def test_bad_size_with_what_waits(self):
        self.program.show(self.surface, 4, 4)
        self.program.join(self.surface, self.program.surface())
        self.ask(self.surface, "scale", 2)
        self.assertEqual(self.program.commit(self.surface), [])
        self.program.attach(self.surface, 3, 2)
        self.refuse((1, "bad size"), self.surface, "commit")
        self.program.attach(self.surface, 6, 2)
        told = self.program.commit(self.surface)
        self.assertEqual(told[0][1], "release")
        self.ask(self.surface, "scale", 4)
        self.refuse((1, "bad size"), self.surface, "commit")
        self.ask(self.surface, "scale", 3)
        self.refuse((1, "bad size"), self.surface, "commit")
        self.ask(self.surface, "scale", 1)
        self.assertEqual(self.program.commit(self.surface), [])

    def test_pixels_count(self):
        buffer = self.program.attach(self.surface, 10, 10)
        self.assertEqual(self.painting.pixel_count(), 100)
        self.program.commit(self.surface)
        self.assertEqual(self.painting.pixel_count(), 200)
        self.program.ask(buffer, "buffer", "destroy")
        self.assertEqual(self.painting.pixel_count(), 100)
        self.program.show(self.surface, 5, 2)
        self.assertEqual(self.painting.pixel_count(), 10)
        self.program.join(self.surface, self.program.surface())
        self.program.show(self.surface, 3, 1)
        self.assertEqual(self.painting.pixel_count(), 13)
        self.program.show(self.surface, 2, 1)
        self.assertEqual(self.painting.pixel_count(), 12)
        self.ask(self.surface, "attach", 0)
        self.program.commit(self.surface)
        self.assertEqual(self.painting.pixel_count(), 10)

    def test_pixels_of_surfaces_count_for_buffers(self):
        self.program.show(self.surface, 90, 90)
        _, other = self.program.inner(self.surface)
        self.program.show(other, 10, 10)
        number = self.program.new("buffer")
        for width, height in [(128, 64), (91, 90)]:
            made = self.program.ask(MEMORY, "memory", "buffer", number, width, height)
            self.assertEqual(made, (MEMORY, 3, "too many pixels"))
        self.assertEqual(self.painting.pixel_count(), 8200)
        self.assertEqual(self.program.ask(MEMORY, "memory", "buffer", number, 93, 88), [])
        self.assertEqual(self.painting.pixel_count(), 16384)
        made = self.program.ask(MEMORY, "memory", "buffer", number + 1, 1, 1)
        self.assertEqual(made, (MEMORY, 3, "too many pixels"))

    def test_too_many_pixels(self):
        self.program.show(self.surface, 64, 64)
        self.program.attach(self.surface, 128, 64)
        self.assertEqual(self.painting.pixel_count(), 3 * 4096)
        self.assertEqual(len(self.program.commit(self.surface)), 1)
        self.assertEqual(self.painting.pixel_count(), 16384)
        other = self.program.surface()
        self.program.ask(other, "surface", "attach", self.program.next - 1)
        self.refuse((3, "too many pixels"), other, "commit")

    def test_just_one_pixel_too_many(self):
        buffer = self.program.attach(self.surface, 127, 64)
        spare = self.program.buffer(128, 1)
        self.assertEqual(self.program.commit(self.surface), [(buffer, "release")])
        self.assertEqual(self.painting.pixel_count(), 16384)
        self.program.ask(spare, "buffer", "destroy")
        self.program.buffer(127, 1)
        other = self.program.surface()
        self.program.attach(other, 1, 1)
        self.assertEqual(self.painting.pixel_count(), 16384)
        self.refuse((3, "too many pixels"), other, "commit")

    def test_bad_size_comes_first(self):
        self.program.attach(self.surface, 128, 65)
        self.refuse((3, "too many pixels"), self.surface, "commit")
        self.ask(self.surface, "scale", 4)
        self.refuse((1, "bad size"), self.surface, "commit")

    def test_pixels_with_what_waits(self):
        parent = self.program.surface()
        self.program.join(self.surface, parent)
        self.program.show(self.surface, 64, 64)
        self.program.commit(parent)
        buffer = self.program.attach(self.surface, 64, 64)
        self.program.commit(self.surface)
        self.program.attach(parent, 64, 64)
        self.assertEqual(self.painting.pixel_count(), 16384)
        # What waits replaces what the inner surface shows, so the parent's picture has just room.
        self.assertEqual(len(self.program.commit(parent)), 1)
        self.assertEqual(self.painting.pixel_count(), 16384)
        self.ask(self.surface, "attach", buffer)
        self.refuse((3, "too many pixels"), self.surface, "commit")

    def test_one_pixel_more_with_commits_that_come_true(self):
        parent = self.program.surface()
        self.program.join(self.surface, parent)
        self.program.show(self.surface, 64, 64)
        self.program.commit(parent)
        self.program.show(self.surface, 64, 65)
        buffer = self.program.attach(parent, 96, 64)
        self.assertEqual(self.painting.pixel_count(), 64 * 64 + 64 * 65 + 96 * 64)
        self.program.ask(buffer, "buffer", "destroy")
        self.program.attach(parent, 94, 65)
        self.program.buffer(1, 4)
        self.assertEqual(self.painting.pixel_count(), 64 * 129 + 6110 + 4)
        # Behind it there are 4160 + 2 * 6110 + 4 pixels: just 16,384.
        self.program.buffer(1, 1)
        self.refuse((3, "too many pixels"), parent, "commit")
        self.program.ask(self.program.next, "buffer", "destroy")
        self.assertEqual(len(self.program.commit(parent)), 1)
        self.assertEqual(self.painting.pixel_count(), 16384)
        self.assertEqual(self.program.applied, [parent, self.surface])

    def test_release_with_a_bound_surface(self):
        self.program.join(self.surface, self.program.surface())
        buffer = self.program.attach(self.surface, 2, 2)
        self.assertEqual(self.program.commit(self.surface), [(buffer, "release")])
        self.assertEqual(self.program.applied, [])
        self.assertIsNone(self.painting.size_of(self.surface))


class Callbacks(SurfacesTest):
    def setUp(self):
        super().setUp()
        self.first = self.program.surface()
        self.second = self.program.surface()

    def frame(self, surface, *callbacks):
        for callback in callbacks:
            self.assertEqual(self.ask(surface, "frame", callback), [])

    def test_in_order(self):
        self.frame(self.second, 900, 901)
        self.frame(self.first, 902)
        self.assertEqual(self.painting.take_callbacks(), [])
        self.program.commit(self.second)
        self.frame(self.second, 899)
        self.program.commit(self.second)
        self.assertEqual(self.painting.take_callbacks(), [900, 901, 899])
        self.assertEqual(self.painting.take_callbacks(), [])
        self.program.commit(self.first)
        self.frame(self.second, 905)
        self.program.commit(self.second)
        self.frame(self.first, 904, 903)
        self.program.commit(self.first)
        taken = self.painting.take_callbacks()
        self.assertEqual(taken, [902, 904, 903, 905])
        taken.append(1)
        self.assertEqual(self.painting.take_callbacks(), [])

    def test_with_what_waits(self):
        self.program.join(self.second, self.first)
        self.frame(self.second, 901)
        self.program.commit(self.second)
        self.frame(self.second, 900)
        self.program.commit(self.second)
        self.assertEqual(self.painting.take_callbacks(), [])
        self.frame(self.second, 907)
        self.program.commit(self.first)
        self.program.commit(self.second)
        self.assertEqual(self.painting.take_callbacks(), [901, 900])
        self.frame(self.first, 908)
        self.program.commit(self.first)
        self.assertEqual(self.painting.take_callbacks(), [908, 907])

    def test_nothing_is_told_or_ended(self):
        self.frame(self.first, 900)
        self.assertEqual(self.program.commit(self.first), [])
        self.assertEqual((self.program.ended, self.program.wishes), ([], []))

    def test_how_many(self):
        sub = self.program.join(self.second, self.first)
        self.program.commit(self.first)
        self.frame(self.second, *range(900, 920))
        self.program.commit(self.second)
        self.program.commit(self.first)
        self.frame(self.second, *range(920, 940))
        self.program.commit(self.second)
        self.frame(self.second, *range(940, 964))
        self.refuse((9, "too many callbacks"), self.second, "frame", 999)
        self.frame(self.first, *range(1000, 1064))
        self.refuse((9, "too many callbacks"), self.first, "frame", 1064)
        self.assertEqual(self.painting.take_callbacks(), list(range(900, 920)))
        self.frame(self.second, *range(964, 984))
        self.refuse((9, "too many callbacks"), self.second, "frame", 999)
        self.program.ask(sub, "sub", "desync")
        self.program.commit(self.second)
        self.refuse((9, "too many callbacks"), self.second, "frame", 999)
        self.assertEqual(self.painting.take_callbacks(), list(range(920, 984)))
        self.frame(self.second, *range(800, 864))
        self.refuse((9, "too many callbacks"), self.second, "frame", 999)


class Destroying(SurfacesTest):
    def setUp(self):
        super().setUp()
        self.surface = self.program.surface()

    def test_callbacks_end(self):
        parent = self.program.surface()
        sub = self.program.join(self.surface, parent)
        self.program.commit(parent)
        for callback in [905, 904]:
            self.ask(self.surface, "frame", callback)
        self.program.commit(self.surface)
        self.program.commit(parent)
        for callback in [903, 902]:
            self.ask(self.surface, "frame", callback)
        self.program.commit(self.surface)
        for callback in [901, 900]:
            self.ask(self.surface, "frame", callback)
        self.program.ask(sub, "sub", "destroy")
        self.assertEqual(self.ask(self.surface, "destroy"), [])
        self.assertEqual(self.program.ended, [905, 904, 903, 902, 901, 900])
        self.assertEqual(self.painting.take_callbacks(), [])
        self.assertEqual(self.painting.surfaces(), [parent])

    def test_pixels(self):
        self.program.show(self.surface, 3, 3)
        self.ask(self.surface, "destroy")
        self.assertEqual(self.painting.pixel_count(), 0)

    def test_role_first(self):
        for role in ["window", "popup"]:
            surface = self.program.surface()
            self.assertIs(self.painting.claim(surface, role), True)
            self.refuse((12, "role first"), surface, "destroy")
            self.painting.release(surface)
            self.assertEqual(self.ask(surface, "destroy"), [])
        parent = self.program.surface()
        sub = self.program.join(self.surface, parent)
        self.refuse((12, "role first"), self.surface, "destroy")
        self.assertEqual(self.ask(parent, "destroy"), [])
        self.refuse((12, "role first"), self.surface, "destroy")
        self.program.ask(sub, "sub", "destroy")
        self.assertEqual(self.ask(self.surface, "destroy"), [])

    def test_the_surfaces_in_it_are_in_none(self):
        sub, inner = self.program.inner(self.surface)
        self.program.show(inner, 2, 2)
        self.program.show(self.surface, 4, 4)
        self.program.show(inner, 3, 3)
        self.assertEqual(self.painting.size_of(inner), (2, 2))
        self.assertEqual(self.ask(self.surface, "destroy"), [])
        self.assertEqual(self.painting.tree_of(inner), [(inner, 0, 0)])
        # It is not bound any more: what waits comes true with its own next commit.
        self.assertEqual(self.painting.size_of(inner), (2, 2))
        self.program.commit(inner)
        self.assertEqual((self.program.applied, self.painting.size_of(inner)), ([inner], (3, 3)))

    def test_a_number_that_is_given_again(self):
        self.program.show(self.surface, 4, 4)
        self.ask(self.surface, "destroy")
        self.program.ask(COMPOSITOR, "compositor", "surface", self.surface)
        self.assertEqual(self.content(self.surface), (None, 0, 1, None, [self.surface], {}))


class Roles(SurfacesTest):
    def setUp(self):
        super().setUp()
        self.surface = self.program.surface()

    def check(self, window, popup):
        """Check whether each role may be claimed now."""
        self.assertIs(self.painting.may_claim(self.surface, "window"), window)
        self.assertIs(self.painting.may_claim(self.surface, "popup"), popup)

    def test_a_new_one(self):
        self.check(True, True)

    def test_a_role_for_ever(self):
        for role, window, popup in [("window", True, False), ("popup", False, True)]:
            self.surface = self.program.surface()
            self.assertIs(self.painting.claim(self.surface, role), True)
            self.check(False, False)
            for other in ["window", "popup"]:
                self.assertIs(self.painting.claim(self.surface, other), False)
            self.painting.release(self.surface)
            self.check(window, popup)
            self.assertIs(self.painting.claim(self.surface, "popup" if window else "window"), False)
            self.check(window, popup)
            self.assertIs(self.painting.claim(self.surface, role), True)
            self.check(False, False)

    def test_a_sub(self):
        sub = self.program.join(self.surface, self.program.surface())
        self.check(False, False)
        self.assertIs(self.painting.claim(self.surface, "window"), False)
        self.program.ask(sub, "sub", "destroy")
        self.check(False, False)
        self.assertIs(self.painting.claim(self.surface, "popup"), False)
        self.assertIsInstance(self.program.join(self.surface, self.program.surface()), int)

    def test_a_parent_has_no_role(self):
        self.program.join(self.program.surface(), self.surface)
        self.check(True, True)


class Hearing(SurfacesTest):
    def heard(self, surface, xs, ys):
        return {(x, y) for x in xs for y in ys if self.painting.hears_at(surface, x, y)}

    def test_edges_of_the_size(self):
        surface = self.program.surface()
        self.program.attach(surface, 6, 4)
        self.ask(surface, "scale", 2)
        self.ask(surface, "turn", 1)
        self.program.commit(surface)
        self.assertEqual(self.painting.size_of(surface), (2, 3))
        expected = {(x, y) for x in range(2) for y in range(3)}
        self.assertEqual(self.heard(surface, range(-3, 9), range(-3, 9)), expected)
        self.assertIs(self.painting.hears_at(surface, 1, 2), True)

    def test_edges_of_the_region(self):
        surface = self.program.surface()
        self.ask(surface, "hears", self.program.region((-2, 1, 4, 2), (4, 3, 90, 90)))
        self.program.show(surface, 6, 5)
        expected = {(x, y) for x in range(2) for y in (1, 2)} | {(x, y) for x in (4, 5) for y in (3, 4)}
        self.assertEqual(self.heard(surface, range(-3, 9), range(-3, 9)), expected)
        self.ask(surface, "hears", self.program.region())
        self.program.commit(surface)
        self.assertEqual(self.heard(surface, range(-3, 9), range(-3, 9)), set())
        self.ask(surface, "hears", 0)
        self.program.commit(surface)
        self.assertEqual(len(self.heard(surface, range(-3, 9), range(-3, 9))), 30)


class Apart(unittest.TestCase):
    def test_programs_are_apart(self):
        program = Program()
        program.show(program.surface(), 4, 4)
        other = Painting()
        self.assertEqual((other.surfaces(), other.pixel_count(), other.take_callbacks()), ([], 0, []))


if __name__ == "__main__":
    unittest.main()
