"""Points 37 to 40: surfaces in surfaces."""

import unittest

from tests.program import JOINER, Program

REFUSED = (JOINER, 13, "cannot be joined")


class NestingTest(unittest.TestCase):
    def setUp(self):
        self.program = Program()
        self.painting = self.program.painting

    def sub(self, number, name, *arguments):
        return self.program.ask(number, "sub", name, *arguments)

    def tree(self, surface):
        return self.painting.tree_of(surface)

    def shown(self, surface):
        """Return what a surface shows: the numbers in order, and the places."""
        content = self.painting.content_of(surface)
        return content.order, content.places

    def parent_with(self, many, size=(4, 4)):
        """Return a parent that shows a picture, and the subs and surfaces in it that do."""
        parent = self.program.surface()
        pairs = [self.program.inner(parent, *size) for _ in range(many)]
        self.program.show(parent, *size)
        return parent, [pair[0] for pair in pairs], [pair[1] for pair in pairs]

    def chain(self, many):
        """Return surfaces, each in the one before it."""
        surfaces = [self.program.surface()]
        subs = []
        for _ in range(many - 1):
            sub, inner = self.program.inner(surfaces[-1])
            subs.append(sub)
            surfaces.append(inner)
        return surfaces, subs


class Joining(NestingTest):
    def test_on_top_at_the_corner(self):
        parent, _, surfaces = self.parent_with(2)
        self.assertEqual(self.shown(parent), ([parent, *surfaces], {surface: (0, 0) for surface in surfaces}))
        self.assertEqual(self.tree(parent), [(parent, 0, 0), (surfaces[0], 0, 0), (surfaces[1], 0, 0)])

    def test_with_the_parents_commit_alone(self):
        parent = self.program.surface()
        self.program.show(parent, 4, 4)
        _, inner = self.program.inner(parent)
        self.program.show(inner, 2, 2)
        self.assertEqual(self.shown(parent), ([parent], {}))
        self.assertEqual(self.tree(parent), [(parent, 0, 0)])
        self.program.commit(parent)
        self.assertEqual(self.tree(parent), [(parent, 0, 0), (inner, 0, 0)])

    def test_another_role(self):
        parent = self.program.surface()
        for role in ["window", "popup"]:
            surface = self.program.surface()
            self.painting.claim(surface, role)
            self.assertEqual(self.program.join(surface, parent), REFUSED)
            self.painting.release(surface)
            self.assertEqual(self.program.join(surface, parent), REFUSED)
        self.assertEqual(self.shown(parent), ([parent], {}))

    def test_a_parent_with_a_role(self):
        for role in ["window", "popup"]:
            parent = self.program.surface()
            self.painting.claim(parent, role)
            self.assertIsInstance(self.program.join(self.program.surface(), parent), int)

    def test_in_a_surface_already(self):
        parent, other = self.program.surface(), self.program.surface()
        _, inner = self.program.inner(parent)
        for place in [parent, other]:
            self.assertEqual(self.program.join(inner, place), REFUSED)

    def test_a_sub_that_is_not_destroyed(self):
        parent, other = self.program.surface(), self.program.surface()
        sub, inner = self.program.inner(parent)
        self.program.ask(parent, "surface", "destroy")
        self.assertEqual(self.program.join(inner, other), REFUSED)
        self.sub(sub, "destroy")
        self.assertIsInstance(self.program.join(inner, other), int)

    def test_in_itself(self):
        surface = self.program.surface()
        self.assertEqual(self.program.join(surface, surface), REFUSED)
        surfaces, subs = self.chain(4)
        self.assertEqual(self.program.join(surfaces[0], surfaces[1]), REFUSED)
        self.assertEqual(self.program.join(surfaces[0], surfaces[3]), REFUSED)
        self.sub(subs[1], "destroy")
        self.assertEqual(self.program.join(surfaces[2], surfaces[3]), REFUSED)
        self.assertIsInstance(self.program.join(surfaces[0], surfaces[3]), int)

    def test_how_many_in_one(self):
        parent = self.program.surface()
        pairs = [self.program.inner(parent) for _ in range(16)]
        for sub, _ in pairs:
            self.assertIsInstance(sub, int)
        last = self.program.surface()
        self.assertEqual(self.program.join(last, parent), REFUSED)
        self.assertIsInstance(self.program.join(last, pairs[3][1]), int)
        self.sub(pairs[4][0], "destroy")
        self.assertIsInstance(self.program.join(self.program.surface(), parent), int)
        self.assertEqual(self.program.join(self.program.surface(), parent), REFUSED)

    def test_how_many_nested(self):
        surfaces, _ = self.chain(8)
        self.assertEqual(self.program.join(self.program.surface(), surfaces[7]), REFUSED)
        self.assertIsInstance(self.program.join(self.program.surface(), surfaces[6]), int)

    def test_how_many_nested_with_what_is_in_both(self):
        for above, below in [(4, 4), (1, 7), (7, 1), (5, 4), (1, 8), (8, 1), (4, 5)]:
            self.setUp()
            outer, _ = self.chain(above)
            inner, _ = self.chain(below)
            self.program.inner(inner[0])
            joined = self.program.join(inner[0], outer[-1])
            if above + max(below, 2) <= 8:
                self.assertIsInstance(joined, int)
            else:
                self.assertEqual(joined, REFUSED)

    def test_a_fault_changes_nothing(self):
        parent = self.program.surface()
        self.program.join(parent, parent)
        self.program.show(parent, 2, 2)
        self.assertEqual(self.tree(parent), [(parent, 0, 0)])
        self.assertIs(self.painting.may_claim(parent, "window"), True)


class Placing(NestingTest):
    def test_places(self):
        parent, subs, surfaces = self.parent_with(2)
        self.assertEqual(self.sub(subs[0], "place", 3, -5), [])
        self.assertEqual(self.shown(parent)[1], {surfaces[0]: (0, 0), surfaces[1]: (0, 0)})
        self.program.commit(surfaces[0])
        self.assertEqual(self.shown(parent)[1], {surfaces[0]: (0, 0), surfaces[1]: (0, 0)})
        self.program.commit(parent)
        self.assertEqual(self.shown(parent)[1], {surfaces[0]: (3, -5), surfaces[1]: (0, 0)})
        self.assertEqual(self.tree(parent), [(parent, 0, 0), (surfaces[0], 3, -5), (surfaces[1], 0, 0)])

    def test_how_far(self):
        parent, subs, surfaces = self.parent_with(1)
        for x, y in [(4096, 4096), (-4096, -4096), (4096, -4096), (0, 0)]:
            self.assertEqual(self.sub(subs[0], "place", x, y), [])
            self.program.commit(parent)
            self.assertEqual(self.shown(parent)[1], {surfaces[0]: (x, y)})
        for x, y in [(4097, 0), (0, 4097), (-4097, 0), (0, -4097), (2 ** 31 - 1, 0), (0, -2 ** 31)]:
            self.assertEqual(self.sub(subs[0], "place", x, y), (subs[0], 8, "bad place"))
        self.program.commit(parent)
        self.assertEqual(self.shown(parent)[1], {surfaces[0]: (0, 0)})

    def order(self, parent):
        """Return the order behind a commit of the parent."""
        self.program.commit(parent)
        return self.shown(parent)[0]

    def test_above_and_below(self):
        parent, subs, (a, b, c) = self.parent_with(3)
        for sub, name, sibling, expected in [
            (subs[0], "above", b, [parent, b, a, c]),
            (subs[0], "above", c, [parent, b, c, a]),
            (subs[2], "below", b, [parent, c, b, a]),
            (subs[2], "above", b, [parent, b, c, a]),
            (subs[1], "below", parent, [b, parent, c, a]),
            (subs[0], "below", parent, [b, a, parent, c]),
            (subs[2], "below", b, [c, b, a, parent]),
            (subs[1], "above", parent, [c, a, parent, b]),
            (subs[0], "below", c, [a, c, parent, b]),
            (subs[0], "below", c, [a, c, parent, b]),
        ]:
            self.assertEqual(self.sub(sub, name, sibling), [])
            self.assertEqual(self.order(parent), expected)
            self.assertEqual([row[0] for row in self.tree(parent)], expected)

    def test_with_the_parents_commit_alone(self):
        parent, subs, (a, b) = self.parent_with(2)
        self.sub(subs[1], "below", parent)
        self.sub(subs[1], "place", 1, 1)
        self.program.commit(b)
        self.assertEqual(self.shown(parent), ([parent, a, b], {a: (0, 0), b: (0, 0)}))
        self.assertEqual(self.order(parent), [b, parent, a])

    def test_as_they_are_at_the_commit(self):
        grand = self.program.surface()
        _, parent = self.program.inner(grand, 4, 4)
        sub, a = self.program.inner(parent, 4, 4)
        self.program.commit(parent)
        self.sub(sub, "place", 5, 5)
        self.program.show(grand, 4, 4)
        self.assertEqual(self.tree(grand), [(grand, 0, 0), (parent, 0, 0), (a, 0, 0)])
        self.program.commit(parent)
        self.sub(sub, "place", 9, 9)
        self.program.commit(grand)
        self.assertEqual(self.tree(grand), [(grand, 0, 0), (parent, 0, 0), (a, 5, 5)])

    def test_no_sibling(self):
        parent, subs, (a, b) = self.parent_with(2)
        _, inner = self.program.inner(a, 4, 4)
        other, _, others = self.parent_with(1)
        for name in ["above", "below"]:
            for sibling in [a, inner, other, others[0]]:
                self.assertEqual(self.sub(subs[0], name, sibling), (subs[0], 14, "no sibling"))
        self.assertEqual(self.order(parent), [parent, a, b])
        self.sub(subs[1], "destroy")
        self.assertEqual(self.sub(subs[0], "above", b), (subs[0], 14, "no sibling"))


class Binding(NestingTest):
    def nested(self):
        """Return three surfaces, each in the one before it, that show pictures of 4 units, and the two subs."""
        (a, b, c), subs = self.chain(3)
        for surface in [c, b, a]:
            self.program.show(surface, 4, 4)
        return a, b, c, *subs

    def sizes(self, *surfaces):
        return [self.painting.size_of(surface) for surface in surfaces]

    def test_what_waits(self):
        a, b, c, _, _ = self.nested()
        self.assertEqual(self.program.applied, [a, b, c])
        for side, surface in [(1, c), (2, b)]:
            self.program.show(surface, side, side)
            self.assertEqual(self.program.applied, [])
        self.assertEqual(self.sizes(a, b, c), [(4, 4)] * 3)
        self.program.commit(a)
        self.assertEqual(self.program.applied, [a, b, c])
        self.assertEqual(self.sizes(a, b, c), [(4, 4), (2, 2), (1, 1)])
        self.program.commit(a)
        self.assertEqual(self.program.applied, [a])

    def test_also_if_nothing_waited_there(self):
        a, b, c, _, _ = self.nested()
        self.program.show(c, 1, 1)
        self.program.commit(a)
        self.assertEqual(self.program.applied, [a, c])
        self.assertEqual(self.sizes(b, c), [(4, 4), (1, 1)])

    def test_free_in_the_middle(self):
        a, b, c, sub_b, _ = self.nested()
        self.assertEqual(self.sub(sub_b, "desync"), [])
        self.program.show(c, 1, 1)
        self.assertEqual(self.program.applied, [])
        self.program.commit(a)
        self.assertEqual((self.program.applied, self.sizes(c)), ([a], [(4, 4)]))
        self.program.show(b, 2, 2)
        self.assertEqual((self.program.applied, self.sizes(b, c)), ([b, c], [(2, 2), (1, 1)]))
        self.assertEqual(self.sub(sub_b, "sync"), [])
        self.program.show(b, 3, 3)
        self.assertEqual(self.program.applied, [])
        self.program.commit(a)
        self.assertEqual(self.program.applied, [a, b])

    def test_free_in_a_bound_one(self):
        a, b, c, sub_b, sub_c = self.nested()
        self.sub(sub_c, "desync")
        self.program.show(c, 1, 1)
        self.assertEqual(self.program.applied, [])
        self.program.show(b, 2, 2)
        self.program.commit(a)
        self.assertEqual(self.program.applied, [a, b, c])
        self.sub(sub_b, "desync")
        self.program.show(c, 3, 3)
        self.assertEqual(self.program.applied, [c])
        self.program.show(b, 3, 3)
        self.assertEqual(self.program.applied, [b])

    def test_what_waited_before_it_was_set_free(self):
        a, b, c, sub_b, _ = self.nested()
        self.program.show(b, 2, 2)
        self.program.show(c, 1, 1)
        self.sub(sub_b, "desync")
        self.assertEqual(self.sizes(b, c), [(4, 4), (4, 4)])
        self.program.commit(a)
        self.assertEqual((self.program.applied, self.sizes(b, c)), ([a], [(4, 4), (4, 4)]))
        self.program.ask(b, "surface", "turn", 1)
        self.program.commit(b)
        self.assertEqual(self.program.applied, [b, c])
        self.assertEqual((self.sizes(b, c), self.painting.content_of(b).turn), ([(2, 2), (1, 1)], 1))

    def test_later_commits_are_laid_over(self):
        a, b, _, _, _ = self.nested()
        self.program.ask(b, "surface", "turn", 3)
        self.program.commit(b)
        self.program.show(b, 2, 1)
        self.program.ask(b, "surface", "turn", 1)
        self.program.commit(b)
        self.program.ask(b, "surface", "hears", self.program.region((0, 0, 1, 1)))
        self.program.commit(b)
        self.program.commit(a)
        content = self.painting.content_of(b)
        self.assertEqual((self.sizes(b), content.turn, content.hears), ([(1, 2)], 1, [(0, 1, ((0, 1),))]))

    def test_in_the_new_order(self):
        parent, subs, (x, y, z) = self.parent_with(3)
        for surface in [x, y, z]:
            self.program.commit(surface)
        self.sub(subs[2], "below", parent)
        self.sub(subs[0], "above", y)
        self.program.commit(parent)
        self.assertEqual(self.program.applied, [parent, z, y, x])

    def test_as_its_content_shows_them_then(self):
        a, b, c, _, _ = self.nested()
        # The new surface is in b with b's next commit only, so what waits in it waits for that.
        _, new = self.program.inner(b)
        self.program.show(new, 1, 1)
        self.program.show(c, 2, 2)
        self.program.commit(a)
        self.assertEqual(self.program.applied, [a, c])
        self.program.commit(b)
        self.program.commit(a)
        self.assertEqual(self.program.applied, [a, b, new])
        self.assertEqual(self.tree(a), [(a, 0, 0), (b, 0, 0), (c, 0, 0), (new, 0, 0)])

    def test_not_bound_without_a_parent(self):
        a, b, _, sub_b, _ = self.nested()
        self.sub(sub_b, "destroy")
        self.program.show(b, 2, 2)
        self.assertEqual(self.program.applied, [b])

    def test_joined_again_it_is_bound(self):
        a, b, _, sub_b, _ = self.nested()
        self.sub(sub_b, "desync")
        self.program.show(b, 2, 2)
        self.assertEqual(self.program.applied, [b])
        self.sub(sub_b, "destroy")
        self.program.join(b, a)
        self.program.show(b, 3, 3)
        self.assertEqual(self.program.applied, [])


class Ending(NestingTest):
    def test_taken_out_at_once(self):
        parent, subs, (a, b) = self.parent_with(2)
        self.assertEqual(self.sub(subs[0], "destroy"), [])
        self.assertEqual(self.shown(parent), ([parent, b], {b: (0, 0)}))
        self.assertEqual(self.tree(parent), [(parent, 0, 0), (b, 0, 0)])
        self.program.commit(parent)
        self.assertEqual(self.shown(parent), ([parent, b], {b: (0, 0)}))
        self.assertEqual(self.tree(a), [(a, 0, 0)])

    def test_out_of_what_waits(self):
        grand = self.program.surface()
        _, parent = self.program.inner(grand, 4, 4)
        sub, a = self.program.inner(parent, 4, 4)
        _, b = self.program.inner(parent, 4, 4)
        self.program.ask(parent, "surface", "frame", 900)
        self.program.show(parent, 2, 2, 7)
        self.sub(sub, "destroy")
        self.program.show(grand, 4, 4)
        self.assertEqual(self.program.applied, [grand, parent, b])
        self.assertEqual(self.tree(grand), [(grand, 0, 0), (parent, 0, 0), (b, 0, 0)])
        self.assertEqual(self.shown(parent), ([parent, b], {b: (0, 0)}))
        self.assertEqual(self.painting.content_of(parent).picture.pixels, [7] * 4)
        self.assertEqual(self.painting.take_callbacks(), [900])

    def test_contents_that_are_kept_stay(self):
        parent, subs, (a,) = self.parent_with(1)
        content = self.painting.content_of(parent)
        self.sub(subs[0], "destroy")
        self.assertEqual((content.order, content.places), ([parent, a], {a: (0, 0)}))

    def test_what_waits_in_it(self):
        parent, subs, (a,) = self.parent_with(1)
        self.program.show(a, 2, 2)
        self.sub(subs[0], "destroy")
        self.program.commit(parent)
        self.assertEqual(self.painting.size_of(a), (4, 4))
        self.program.commit(a)
        self.assertEqual(self.painting.size_of(a), (2, 2))

    def test_joined_again_it_is_on_top(self):
        parent, subs, (a, b) = self.parent_with(2)
        self.sub(subs[0], "place", 5, 5)
        self.program.commit(parent)
        self.sub(subs[0], "destroy")
        self.program.join(a, parent)
        self.assertEqual(self.shown(parent), ([parent, b], {b: (0, 0)}))
        self.program.commit(parent)
        self.assertEqual(self.shown(parent), ([parent, b, a], {b: (0, 0), a: (0, 0)}))

    def test_a_parent_that_has_been_destroyed(self):
        parent, subs, (a, b) = self.parent_with(2)
        self.program.ask(parent, "surface", "destroy")
        for name, arguments in [
            ("place", (1, 1)), ("place", (5000, 0)), ("above", (b,)), ("above", (a,)), ("below", (a,)),
            ("below", (b,)), ("sync", ()), ("desync", ()),
        ]:
            self.assertEqual(self.sub(subs[0], name, *arguments), [])
        self.assertEqual(self.tree(a), [(a, 0, 0)])
        self.assertEqual(self.sub(subs[0], "destroy"), [])
        other = self.program.surface()
        self.program.show(other, 4, 4)
        self.assertIsInstance(self.program.join(a, other), int)
        self.program.show(a, 2, 2)
        self.assertEqual(self.program.applied, [])
        self.program.commit(other)
        self.assertEqual(self.tree(other), [(other, 0, 0), (a, 0, 0)])

    def test_another_parent_with_its_number(self):
        parent, subs, (a,) = self.parent_with(1)
        self.program.ask(parent, "surface", "destroy")
        self.program.ask(4, "compositor", "surface", parent)
        self.assertEqual(self.sub(subs[0], "place", 1, 1), [])
        self.sub(subs[0], "destroy")
        self.program.show(parent, 4, 4)
        self.assertEqual(self.tree(parent), [(parent, 0, 0)])


class Trees(NestingTest):
    def test_above_and_below(self):
        parent, subs, (a, b, c) = self.parent_with(3)
        sub, inner = self.program.inner(a, 1, 1)
        self.sub(sub, "place", 10, 20)
        self.sub(sub, "below", a)
        self.program.commit(a)
        self.sub(subs[0], "place", 100, 200)
        self.sub(subs[1], "place", -1, -2)
        self.sub(subs[1], "below", parent)
        self.program.commit(parent)
        self.assertEqual(
            self.tree(parent), [(b, -1, -2), (parent, 0, 0), (inner, 110, 220), (a, 100, 200), (c, 0, 0)]
        )
        self.assertEqual(self.tree(a), [(inner, 10, 20), (a, 0, 0)])

    def test_without_pictures(self):
        parent, subs, (a, b) = self.parent_with(2)
        _, inner = self.program.inner(a, 1, 1)
        self.program.commit(a)
        self.program.commit(parent)
        self.assertEqual(self.tree(parent), [(parent, 0, 0), (a, 0, 0), (inner, 0, 0), (b, 0, 0)])
        self.program.hide(a)
        self.program.commit(parent)
        self.assertEqual(self.tree(parent), [(parent, 0, 0), (b, 0, 0)])
        self.assertEqual(self.tree(inner), [(inner, 0, 0)])
        self.program.hide(parent)
        self.assertEqual(self.tree(parent), [])
        self.assertEqual(self.tree(b), [(b, 0, 0)])

    def test_trees_are_new(self):
        parent, _, _ = self.parent_with(1)
        tree = self.tree(parent)
        tree.append(1)
        self.assertEqual(len(self.tree(parent)), 2)


if __name__ == "__main__":
    unittest.main()
