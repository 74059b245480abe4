"""Points 61 and 62: what was painted, settled points, and frames that were seen."""

import copy
import unittest

from sillwatch.devices.memory import Painted

FRAME, OTHER = (0, 0, 20, 20), (5, 5, 20, 20)


def covers(*rows):
    """Return covers of rows (slot, window, frame), each of just its frame."""
    return [(slot, window, frame, [frame]) for slot, window, frame in rows]


A, B = covers((0, 9, FRAME)), covers((1, 9, FRAME))
MOVED = covers((0, 9, OTHER))


class MemoryTest(unittest.TestCase):
    def setUp(self):
        self.painted = Painted()

    def paint(self, *rows):
        for time, scene in rows:
            before = copy.deepcopy(scene)
            self.painted.paint(time, scene)
            self.assertEqual(scene, before)

    def settled(self, scene, time, guard, x=10, y=10):
        return self.painted.is_settled(scene, time, guard, x, y)

    def seen(self, scene, time, guard, x=10, y=10):
        return self.painted.was_seen(scene, time, guard, x, y)


class Scenes(MemoryTest):
    def test_nothing_painted(self):
        for time in (0, 5, 99999):
            for guard in (0, 1, 1000):
                self.assertEqual(self.painted.scenes(time, guard), [[]])

    def test_the_last_one(self):
        self.paint((0, A))
        self.assertEqual(self.painted.scenes(0, 0), [A])
        self.assertEqual(self.painted.scenes(500, 0), [A])
        self.paint((500, B))
        self.assertEqual(self.painted.scenes(500, 0), [B])
        self.assertEqual(self.painted.scenes(501, 0), [B])

    def test_before_everything(self):
        self.paint((100, A))
        self.assertEqual(self.painted.scenes(100, 1), [A, []])
        self.assertEqual(self.painted.scenes(150, 50), [A])
        self.assertEqual(self.painted.scenes(150, 51), [A, []])
        self.assertEqual(self.painted.scenes(1099, 1000), [A, []])
        self.assertEqual(self.painted.scenes(1100, 1000), [A])

    def test_the_last_first(self):
        self.paint((100, A), (200, B), (300, MOVED))
        for time, guard, expected in [
            (300, 0, [MOVED]), (300, 1, [MOVED, B]), (300, 100, [MOVED, B]), (300, 101, [MOVED, B, A]),
            (300, 200, [MOVED, B, A]), (300, 201, [MOVED, B, A, []]), (300, 1000, [MOVED, B, A, []]),
            (400, 100, [MOVED]), (400, 101, [MOVED, B]), (1199, 1000, [MOVED, B, A]), (1200, 1000, [MOVED, B]),
            (1299, 1000, [MOVED, B]), (1300, 1000, [MOVED]),
        ]:
            self.assertEqual(self.painted.scenes(time, guard), expected)

    def test_several_at_one_time(self):
        self.paint((100, A), (200, B), (200, MOVED), (200, A + B))
        self.assertEqual(self.painted.scenes(200, 1000), [A + B, A, []])
        self.setUp()
        self.paint((0, A), (0, B))
        self.assertEqual(self.painted.scenes(0, 1000), [B, []])

    def test_what_is_kept(self):
        # Of each scene but the last one, the next one must be painted later than 1,000 ms before the last tick.
        self.paint((0, A), (1000, B))
        self.assertEqual(self.painted.scenes(1000, 1000), [B, A])
        self.paint((1001, MOVED))
        self.assertEqual(self.painted.scenes(1001, 1000), [MOVED, B, A])
        self.paint((2000, A))
        self.assertEqual(self.painted.scenes(2000, 1000), [A, MOVED, B])
        self.assertEqual(self.painted.scenes(0, 1000), [A, MOVED, B])
        self.paint((2001, B))
        self.assertEqual(self.painted.scenes(0, 1000), [B, A, MOVED])
        self.paint((9999, A))
        self.assertEqual(self.painted.scenes(0, 1000), [A, B])

    def test_lists_are_new(self):
        scene = list(A)
        self.paint((100, scene))
        scene.append(B[0])
        self.painted.scenes(100, 1000)[0].append(B[0])
        self.painted.scenes(100, 1000).append(A)
        self.assertEqual(self.painted.scenes(100, 1000), [A, []])


class Disowning(MemoryTest):
    def test_windows_of_nobody(self):
        self.paint((100, A + B), (200, B + A))
        self.painted.disown(0)
        nobody = (None, 9, FRAME, [FRAME])
        self.assertEqual(self.painted.scenes(200, 50), [[B[0], nobody], [nobody, B[0]]])
        self.painted.disown(3)
        self.painted.disown(1)
        self.assertEqual(self.painted.scenes(200, 0), [[nobody, nobody]])

    def test_what_was_handed_in_stays(self):
        scene = A + B
        self.paint((100, scene))
        given = self.painted.scenes(100, 0)
        self.painted.disown(0)
        self.assertEqual((scene, given), (A + B, [A + B]))

    def test_another_program_in_the_slot(self):
        self.paint((100, A))
        self.assertIs(self.settled(A, 5000, 1000), True)
        self.painted.disown(0)
        self.assertIs(self.settled(A, 5000, 1000), False)
        self.assertIs(self.seen(A, 5000, 1000), False)
        # Nobody's window was there: that is not the same as none.
        self.assertIs(self.settled([], 5000, 0), False)
        self.paint((5000, A))
        self.assertIs(self.settled(A, 5000, 0), True)
        self.assertIs(self.settled(A, 5999, 1000), False)
        self.assertIs(self.settled(A, 6000, 1000), True)


class Settling(MemoryTest):
    def test_nothing_painted(self):
        for guard in (0, 1000):
            self.assertIs(self.settled([], 0, guard), True)
            self.assertIs(self.settled(A, 0, guard), False)
            self.assertIs(self.settled(A, 0, guard, 50, 50), True)
            self.assertIs(self.seen(A, 0, guard), False)

    def test_guard_times(self):
        self.paint((100, A))
        for time, guard, expected in [
            (100, 0, True), (100, 1, False), (199, 100, False), (200, 100, True), (1099, 1000, False),
            (1100, 1000, True),
        ]:
            self.assertIs(self.settled(A, time, guard), expected)
            self.assertIs(self.seen(A, time, guard), expected)
            self.assertIs(self.settled([], time, guard), False)

    def test_the_scene_now(self):
        self.paint((100, A))
        self.assertIs(self.settled(B, 5000, 0), False)
        self.assertIs(self.settled(A + B, 5000, 0), False)
        self.assertIs(self.settled(B + A, 5000, 0), True)

    def test_one_before(self):
        self.paint((0, A), (2000, B), (2100, A))
        self.assertIs(self.settled(A, 2100, 0), True)
        self.assertIs(self.settled(A, 2200, 100), True)
        self.assertIs(self.settled(A, 2199, 100), False)

    def test_no_window(self):
        self.paint((0, A), (2000, A))
        self.assertIs(self.settled(A, 2000, 1000, 50, 50), True)
        self.assertIs(self.seen(A, 2000, 1000, 50, 50), False)
        self.assertIs(self.settled([], 2000, 1000, 50, 50), True)
        self.assertIs(self.settled([], 2000, 1000), False)

    def test_the_same_number_of_another_slot(self):
        self.paint((0, A), (2000, A))
        self.assertIs(self.settled(B, 2000, 0), False)
        self.assertIs(self.settled(covers((0, 8, FRAME)), 2000, 0), False)

    def test_a_frame_that_changed(self):
        self.paint((0, A), (2000, MOVED))
        self.assertIs(self.settled(MOVED, 2000, 1000), True)
        self.assertIs(self.seen(MOVED, 2000, 1000), False)
        self.assertIs(self.seen(MOVED, 2000, 0), True)
        self.assertIs(self.seen(MOVED, 2999, 1000), False)
        self.assertIs(self.seen(MOVED, 3000, 1000), True)
        self.assertIs(self.settled(A, 3000, 1000), True)
        self.assertIs(self.seen(A, 3000, 1000), False)

    def test_at_the_point_alone(self):
        below = covers((1, 7, (0, 0, 100, 100)))
        self.paint((0, below + A), (2000, below + MOVED))
        self.assertIs(self.settled(below + MOVED, 2000, 1000, 2, 2), False)
        self.assertIs(self.settled(below + MOVED, 2000, 1000, 22, 22), False)
        self.assertIs(self.settled(below + MOVED, 2000, 1000, 10, 10), True)
        self.assertIs(self.settled(below + MOVED, 2000, 1000, 50, 50), True)
        self.assertIs(self.seen(below + MOVED, 2000, 1000, 50, 50), True)

    def test_covers_beyond_the_frame(self):
        wide = [(0, 9, FRAME, [FRAME, (40, 40, 5, 5)])]
        self.paint((0, wide))
        self.assertIs(self.settled(wide, 2000, 1000, 42, 42), True)
        self.assertIs(self.seen(wide, 2000, 1000, 42, 42), True)
        self.assertIs(self.settled(A, 2000, 1000, 42, 42), False)
        # What else it covers is not its frame.
        self.assertIs(self.seen(A, 2000, 1000), True)


if __name__ == "__main__":
    unittest.main()
