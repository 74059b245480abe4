"""Points 75 to 86: pastes, drags, captures, and what all programs together give."""

import unittest

from sillwatch.errors import NothingAsked
from sillwatch.outputs import Output
from sillwatch.screens.colours import DESK
from tests.client import ALL_FLOWS, TRANSFER, Client, server_of
from tests.helpers import error_class_of
from tests.program import at

RED, GREEN, BLUE = 0xFFFF0000, 0xFF00FF00, 0xFF0000FF
# The insides of the windows of the three programs begin at these points.
CORNERS = [(2, 10), (66, 10), (130, 10)]
NOTHING = (190, 140)


class GivingTest(unittest.TestCase):
    """Three programs with a pointer and a window of 40 times 30 units each, side by side."""

    def setUp(self):
        self.server = server_of([Output(0, 0, 0, 200, 150, 1, 0)], ALL_FLOWS)
        self.clients = []
        self.windows = []
        self.surfaces = []
        self.pointers = []
        for slot, colour in enumerate([RED, GREEN, BLUE]):
            client = Client(self.server, slot, "abc"[slot], 100 + 1000 * slot).start()
            self.clients.append(client)
            self.pointers.append(client.pointer())
            window, surface = client.mapped(40, 30, colour)
            self.windows.append(window)
            self.surfaces.append(surface)
            self.server.switch(0, slot, window)
            self.server.tick(0)
            self.server.motion(0, 5, 5)
            self.server.button(0, 1, True)
            self.server.motion(0, 5 + 64 * slot, 5)
            self.server.button(0, 1, False)
        self.server.motion(0, *NOTHING)
        self.server.tick(0)
        self.told()

    def told(self):
        return [client.told() for client in self.clients]

    def point(self, slot, x=0, y=0):
        return CORNERS[slot][0] + x, CORNERS[slot][1] + y

    def motion(self, slot, x=0, y=0, time=0):
        self.server.motion(time, *self.point(slot, x, y))

    def press(self, slot):
        """Press on a program's surface, and return the serial."""
        self.motion(slot, 5, 5)
        self.server.button(0, 1, True)
        rows = [row for row in self.told()[slot] if row[1] == "button"]
        return rows[-1][2]

    def release(self):
        self.server.button(0, 1, False)

    def give(self, slot, *pieces, primary=0):
        client = self.clients[slot]
        serial = self.press(slot)
        source = client.source(*pieces)
        client.told()
        self.assertEqual(client.ask(TRANSFER, "transfer", "give", source, serial, primary), [])
        self.release()
        self.told()

    def drag(self, slot, *pieces):
        """Begin a drag; the button stays pressed."""
        client = self.clients[slot]
        serial = self.press(slot)
        source = client.source(*pieces)
        client.told()
        self.assertEqual(client.ask(TRANSFER, "transfer", "drag", source, serial), [])

    def hover(self, slot, x, y, *kinds):
        return [(TRANSFER, "hover", self.surfaces[slot], x, y)] + [(TRANSFER, "hover_kind", kind) for kind in kinds]


class Placing(GivingTest):
    def test_the_windows(self):
        self.assertEqual([row[5] for row in self.server.windows()], [(64 * slot, 0, 44, 42) for slot in range(3)])


class Pastes(GivingTest):
    def offer(self, told):
        return told[0][2]

    def test_what_comes(self):
        self.give(0, ("b", [1, 2]), ("a", []))
        self.assertEqual(self.server.selection(False), [("a", [("b", 2), ("a", 0)])])
        self.assertEqual(self.server.selection(True), [])
        self.server.switch(0, 1, self.windows[1])
        self.told()
        self.server.paste(False)
        told = self.told()
        offer = self.offer(told[1])
        self.assertEqual(told, [
            [], [(TRANSFER, "offer", 4278190080, 0), (offer, "kind", "a", 0), (offer, "kind", "b", 2)], [],
        ])
        self.assertEqual(self.clients[1].ask(offer, "offer", "read", "b", 0, 2), [(offer, "part", "b", 0, [1, 2])])
        self.server.paste(True)
        self.assertEqual(self.told(), [[], [], []])

    def test_the_two_selections(self):
        self.give(0, ("s", [1]))
        self.give(1, ("p", [2]), primary=9)
        self.assertEqual((self.server.selection(False), self.server.selection(True)),
                         ([("a", [("s", 1)])], [("b", [("p", 1)])]))
        self.server.paste(True)
        self.server.paste(False)
        rows = [row[1:] for row in self.told()[1]]
        self.assertEqual([rows[0][2], rows[1], rows[2][2], rows[3]], [1, ("kind", "p", 1), 0, ("kind", "s", 1)])

    def test_the_newest_of_which_any_comes(self):
        self.give(0, ("k", [0]))
        self.give(1, ("l", [1]), ("k", [1, 1]))
        self.give(2, ("m", [2]))
        self.assertEqual([row[0] for row in self.server.selection(False)], ["c", "b", "a"])
        for policy, expected in [
            ('allow paste from any to any;', [("m", 1)]), ('allow paste of "k" from any to any;', [("k", 2)]),
            ('program b = "b"; allow paste from any but b to any; deny paste of "m" from any to any;', [("k", 1)]),
            ('allow paste of "l", "k" from any to any; deny paste of "k" from any to any;', [("l", 1)]), ("", []),
            ('allow drop from any to any;', []),
        ]:
            self.server.set_policy(policy)
            self.server.paste(False)
            self.assertEqual([row[2:] for row in self.told()[2] if row[1] == "kind"], expected)

    def test_without_focus(self):
        self.give(0, ("k", [0]))
        self.clients[0].hide(self.surfaces[0])
        self.told()
        self.server.paste(False)
        self.assertEqual(self.told(), [[], [], []])

    def test_what_was_given_stays_behind_the_end(self):
        self.give(0, ("k", [7]))
        self.server.leave(0)
        self.server.switch(0, 1, self.windows[1])
        self.clients[1].told()
        self.server.paste(False)
        self.assertEqual([row[1] for row in self.clients[1].told()], ["offer", "kind"])
        Client(self.server, 0, "z")
        self.server.paste(False)
        self.assertEqual(self.clients[1].told(), [])

    def test_without_a_pane(self):
        self.give(0, ("k", [7]))
        self.clients[0].ask(TRANSFER, "transfer", "destroy")
        self.server.paste(False)
        self.assertEqual(self.clients[0].told(), [])

    def test_frames_are_told_behind_it(self):
        self.server.set_outputs([Output(0, 0, 0, 200, 150, 1, 0), Output(1, 0, 150, 5, 5, 1, 0)])
        self.server.set_outputs([Output(0, 100, 0, 100, 150, 1, 0)])
        self.told()
        self.server.paste(False)
        self.assertEqual(self.told()[0], [(self.windows[0], "left", 0)])

    def test_the_giver_is_told_nothing(self):
        self.give(0, ("k", [7]))
        self.server.switch(0, 1, self.windows[1])
        self.told()
        self.server.paste(False)
        offer = self.offer(self.clients[1].told())
        self.clients[1].ask(offer, "offer", "read", "k", 0, 1)
        self.assertEqual(self.clients[0].told(), [])


class Drags(GivingTest):
    def test_over_several_programs(self):
        self.drag(0, ("b", [1]), ("a", [2, 3]))
        self.motion(0, 7, 8, 5)
        self.assertEqual(self.told()[0], [(self.pointers[0], "motion", 7, 8, 5)] + self.hover(0, 7, 8, "a", "b"))
        self.motion(0, 8, 8, 6)
        self.assertEqual(self.told()[0], [(self.pointers[0], "motion", 8, 8, 6), (TRANSFER, "moved", 6, 8, 8)])
        self.motion(1, 3, 4, 7)
        self.assertEqual(self.told(), [
            [(self.pointers[0], "motion", 67, 4, 7), (TRANSFER, "away")], self.hover(1, 3, 4, "a", "b"), [],
        ])
        self.motion(1, 3, 5, 2 ** 32 + 8)
        self.assertEqual(self.told()[1], [(TRANSFER, "moved", 8, 3, 5)])
        self.motion(2, 1, 1, 2 ** 32 + 8)
        self.assertEqual(self.told()[1:], [[(TRANSFER, "away")], self.hover(2, 1, 1, "a", "b")])
        self.server.button(2 ** 32 + 9, 1, False)
        told = self.told()
        offer = told[2][1][2]
        self.assertEqual(told, [
            [
                (self.pointers[0], "button", 2, 1, 0, 9), (self.pointers[0], "leave", self.surfaces[0]),
                (TRANSFER, "ended"),
            ], [],
            [
                (self.pointers[2], "enter", self.surfaces[2], 1, 1), (TRANSFER, "offer", 4278190080, 2),
                (offer, "kind", "a", 2), (offer, "kind", "b", 1),
            ],
        ])
        self.assertEqual(self.clients[2].ask(offer, "offer", "read", "a", 0, 2), [(offer, "part", "a", 0, [2, 3])])
        self.motion(1, 3, 4, 2 ** 33)
        self.assertEqual([row[1] for row in self.told()[1]], ["enter"])

    def test_frames_come_ahead_of_drags(self):
        self.drag(0, ("k", []))
        self.server.set_outputs([Output(0, 60, 0, 140, 150, 1, 0)])
        self.told()
        self.motion(1, 3, 4)
        told = self.told()
        self.assertEqual([row[1] for row in told[0]], ["motion", "left"])
        self.assertEqual([row[1] for row in told[1]], ["hover", "hover_kind"])

    def test_dropped_on_nothing(self):
        self.drag(0, ("k", []))
        self.motion(1, 3, 4)
        self.server.motion(0, *NOTHING)
        self.assertEqual(self.told()[1], [(TRANSFER, "hover", self.surfaces[1], 3, 4), (TRANSFER, "hover_kind", "k"),
                                          (TRANSFER, "away")])
        self.release()
        self.assertEqual([row[1] for row in self.told()[0]], ["button", "leave", "ended"])

    def test_without_a_motion_nothing_is_hovered(self):
        self.drag(0, ("k", []))
        self.release()
        self.assertEqual([row[1] for row in self.told()[0]], ["button", "motion", "ended"])

    def test_a_further_button(self):
        self.drag(0, ("k", []))
        self.motion(1, 3, 4)
        self.server.button(0, 2, True)
        self.release()
        self.assertEqual([row[1] for row in self.told()[1]], ["hover", "hover_kind"])
        self.motion(1, 4, 4)
        self.server.button(0, 2, False)
        told = self.told()
        self.assertEqual([row[1] for row in told[1]], ["moved", "enter", "offer", "kind"])
        self.assertEqual(told[0][-1], (TRANSFER, "ended"))

    def test_the_policy(self):
        for policy, expected in [
            ('program b = "b"; allow drop from any to any but b;', []), ('allow drop of "l" from any to any;', ["l"]),
            ("allow paste from any to any;", []), ('program b = "b"; allow drop from b to any;', []),
        ]:
            self.setUp()
            self.server.set_policy(policy)
            self.drag(0, ("k", []), ("l", [1]))
            self.motion(1, 3, 4)
            self.assertEqual([row[2] for row in self.told()[1] if row[1] == "hover_kind"], expected)
            self.release()
            self.assertEqual([row[2] for row in self.told()[1] if row[1] == "kind"], expected)

    def test_a_policy_that_changes(self):
        self.drag(0, ("k", []))
        self.motion(1, 3, 4)
        self.server.set_policy("")
        self.told()
        self.motion(1, 4, 4)
        self.assertEqual(self.told()[1], [(TRANSFER, "away")])
        self.server.set_policy(ALL_FLOWS)
        self.motion(1, 4, 4)
        self.told()
        self.server.set_policy("")
        self.release()
        self.assertEqual(self.told()[1], [(self.pointers[1], "enter", self.surfaces[1], 4, 4), (TRANSFER, "away")])

    def test_conditions_of_a_drag(self):
        client = self.clients[0]
        serial = self.press(0)
        first, second = client.source(("k", [])), client.source(("l", []))
        client.told()
        client.ask(TRANSFER, "transfer", "drag", first, serial + 1)
        client.ask(TRANSFER, "transfer", "drag", first, serial)
        # A further press gives a grant, but no second drag begins.
        self.server.button(0, 2, True)
        client.told()
        client.ask(TRANSFER, "transfer", "drag", second, serial + 1)
        self.motion(0, 1, 1)
        self.assertEqual([row[2] for row in client.told() if row[1] == "hover_kind"], ["k"])
        client.ask(TRANSFER, "transfer", "give", second, serial + 1, 0)
        self.assertEqual(self.server.selection(False), [("a", [("l", 0)])])

    def test_no_drag_without_the_grip(self):
        serial = self.press(0)
        self.release()
        client = self.clients[0]
        source = client.source(("k", []))
        client.ask(TRANSFER, "transfer", "drag", source, serial)
        self.motion(0, 1, 1)
        self.release()
        self.assertNotIn("ended", [row[1] for row in client.told()])
        client.ask(TRANSFER, "transfer", "give", source, serial, 0)
        self.assertEqual(len(self.server.selection(False)), 1)

    def test_a_drop_that_is_not_settled(self):
        for time, expected in [(619, ["away"]), (620, ["offer", "kind"])]:
            self.setUp()
            self.drag(0, ("k", []))
            self.server.set_guard(100)
            self.server.tick(500)
            # A window that covers the point is there for a while.
            window, _ = self.clients[2].mapped(60, 40)
            self.server.switch(500, 2, window)
            self.server.tick(510)
            self.server.switch(515, 1, self.windows[1])
            self.server.tick(520)
            self.motion(1, 3, 20, 520)
            self.told()
            self.server.button(time, 1, False)
            self.assertEqual([row[1] for row in self.told()[1]], ["enter"] + expected)

    def test_a_drop_under_a_window_that_comes(self):
        self.drag(0, ("k", []))
        self.motion(1, 3, 20)
        # The frame of another window is hit at the release.
        window, _ = self.clients[2].mapped(60, 40)
        self.server.switch(0, 2, window)
        self.told()
        self.release()
        self.assertEqual(self.told()[1], [(TRANSFER, "away")])

    def test_a_drop_under_a_surface_that_comes(self):
        self.drag(0, ("k", []))
        self.motion(1, 3, 28)
        window, surface = self.clients[2].mapped(60, 40)
        self.server.switch(0, 2, window)
        self.server.tick(0)
        self.told()
        self.release()
        # That one is the target, but it is not hovered.
        told = self.told()
        self.assertEqual(told[1], [(TRANSFER, "away")])
        self.assertEqual([row[1:3] for row in told[2]], [("enter", surface)])

    def test_frames_and_ground_are_no_targets(self):
        self.clients[1].paint(self.surfaces[1], 10, 10)
        self.drag(0, ("k", []))
        self.motion(1, 3, 4)
        self.told()
        self.motion(1, 3, -4)
        self.assertEqual(self.told()[1], [(TRANSFER, "away")])
        self.motion(1, 30, 20)
        self.assertEqual(self.told()[1], [])

    def test_drags_one_after_the_other(self):
        for _ in range(2):
            self.drag(0, ("k", []))
            self.motion(1, 3, 4)
            self.release()
            self.assertEqual([row[1] for row in self.told()[1]], ["hover", "hover_kind", "enter", "offer", "kind"])

    def test_a_drag_from_where_another_one_was_dropped(self):
        self.drag(0, ("k", []))
        self.motion(1, 3, 4)
        self.release()
        self.server.button(0, 1, True)
        client = self.clients[1]
        serial = [row[2] for row in client.told() if row[1] == "button"][0]
        client.ask(TRANSFER, "transfer", "drag", client.source(("l", [])), serial)
        self.motion(1, 4, 4)
        self.assertEqual([row[1] for row in client.told()], ["motion", "hover", "hover_kind"])

    def test_surfaces_that_end_elsewhere(self):
        self.drag(0, ("k", []))
        self.motion(1, 3, 4)
        for slot in (0, 1, 2):
            client = self.clients[slot]
            surface = client.surface()
            client.ask(surface, "surface", "destroy")
        self.told()
        self.motion(1, 3, 5)
        self.assertEqual([row[1] for row in self.told()[1]], ["moved"])

    def test_a_program_that_cannot_be_told(self):
        for count, expected in [(511, ["offer", "kind"]), (512, ["away"])]:
            self.setUp()
            client = self.clients[1]
            self.drag(0, ("k", []))
            self.motion(1, 3, 4)
            while len(client.kinds) < count:
                client.ask(1, "display", "registry", client.new("registry"))
            self.assertIs(client.is_there(), True)
            self.release()
            self.assertEqual([row[1] for row in self.told()[1]], ["enter"] + expected)

    def test_a_pane_that_goes(self):
        self.drag(0, ("k", []))
        self.motion(1, 3, 4)
        self.clients[1].ask(TRANSFER, "transfer", "destroy")
        self.clients[0].ask(TRANSFER, "transfer", "destroy")
        self.told()
        self.motion(1, 4, 4)
        self.release()
        told = self.told()
        self.assertEqual([row[1] for row in told[1]], ["enter"])
        self.assertEqual([row[1] for row in told[0]], ["motion", "button", "leave"])

    def test_the_end_of_the_dragging_program(self):
        self.drag(0, ("k", []))
        self.motion(1, 3, 4)
        self.server.leave(0)
        self.clients[1].told()
        self.motion(1, 4, 4)
        self.assertEqual(self.clients[1].told(), [(TRANSFER, "away")])

    def test_the_end_of_the_hovered_program(self):
        self.drag(0, ("k", []))
        self.motion(1, 3, 4)
        self.server.leave(1)
        client = Client(self.server, 1, "b", 100).start()
        self.told()
        self.server.motion(0, *NOTHING)
        self.release()
        self.assertEqual(client.told(), [])

    def test_another_surface_with_the_number(self):
        client = self.clients[1]
        self.drag(0, ("k", []))
        self.motion(1, 3, 4)
        sub, inner = client.new("sub"), client.surface()
        client.put(5, "joiner", "join", sub, inner, self.surfaces[1])
        client.paint(inner, 10, 10)
        client.ask(self.surfaces[1], "surface", "commit")
        self.motion(1, 4, 4)
        self.told()
        client.put(sub, "sub", "destroy")
        client.put(inner, "surface", "destroy")
        client.put(4, "compositor", "surface", inner)
        client.put(5, "joiner", "join", sub, inner, self.surfaces[1])
        client.paint(inner, 10, 10)
        client.ask(self.surfaces[1], "surface", "commit")
        client.told()
        self.motion(1, 5, 4)
        self.assertEqual(client.told(), [
            (TRANSFER, "away"), (TRANSFER, "hover", inner, 5, 4), (TRANSFER, "hover_kind", "k"),
        ])

    def test_the_end_of_a_drag_with_its_program(self):
        self.drag(0, ("k", []))
        self.server.leave(0)
        self.release()
        self.drag(1, ("l", []))
        self.motion(2, 1, 1)
        self.assertEqual(self.clients[2].told()[-1], (TRANSFER, "hover_kind", "l"))
        self.release()
        self.assertEqual(self.clients[1].told()[-1], (TRANSFER, "ended"))


class Captures(GivingTest):
    def setUp(self):
        super().setUp()
        self.output = self.clients[1].output()
        self.clients[1].told()

    def ask(self, x, y, width, height, output=None):
        """Ask for a picture; return the capture's number of the program."""
        client = self.clients[1]
        capture = client.new("capture")
        told = client.ask(TRANSFER, "transfer", "ask", capture, output or self.output, x, y, width, height)
        self.assertEqual(told, [])
        return capture

    def read(self, capture, width, height):
        """Return the colours of a picture, row by row."""
        colours = []
        for row in range(height):
            octets = self.clients[1].ask(capture, "capture", "read", row, 1)[0][3]
            colours += [octets[at_place] + 2 ** 8 * octets[at_place + 1] + 2 ** 16 * octets[at_place + 2]
                        + 2 ** 24 * octets[at_place + 3] for at_place in range(0, len(octets), 4)]
        self.assertEqual(len(colours), width * height)
        return colours

    def allowed(self, x, y, width, height):
        capture = self.ask(x, y, width, height)
        number = self.server.captures()[-1][0]
        self.server.allow(number, True)
        self.assertEqual(self.clients[1].told(), [(capture, "allowed", width, height)])
        return self.read(capture, width, height)

    def test_asked(self):
        self.assertIs(error_class_of(self.server.allow, 1, True), NothingAsked)
        unknown = self.clients[1].output(77)
        self.ask(-1, 2, 3, 4)
        self.ask(0, 0, 1, 1, unknown)
        self.assertEqual(self.server.captures(), [(1, 1, "b", 0, -1, 2, 3, 4), (2, 1, "b", None, 0, 0, 1, 1)])
        for number in (0, 3, -1):
            self.assertIs(error_class_of(self.server.allow, number, False), NothingAsked)
        self.assertEqual(self.told(), [[], [], []])

    def test_refused(self):
        capture = self.ask(0, 0, 1, 1)
        self.server.allow(1, False)
        self.assertEqual(self.told(), [[], [(capture, "refused")], []])
        self.assertEqual(self.server.captures(), [])
        self.assertIs(error_class_of(self.server.allow, 1, False), NothingAsked)

    def test_frames_are_told_behind_it(self):
        self.server.set_outputs([Output(0, 100, 0, 100, 150, 1, 0)])
        self.told()
        self.ask(0, 0, 1, 1)
        self.server.set_outputs([Output(0, 0, 0, 200, 150, 1, 0)])
        self.told()
        self.server.allow(1, False)
        self.assertEqual(self.told()[0], [(self.windows[0], "output", 0)])

    def test_no_output(self):
        unknown = self.clients[1].output(77)
        capture = self.ask(0, 0, 1, 1, unknown)
        self.server.allow(1, True)
        self.assertEqual(self.clients[1].told(), [(capture, "refused")])
        other = self.ask(0, 0, 1, 1)
        self.server.set_outputs([Output(5, 0, 0, 200, 150, 1, 0)])
        self.clients[1].told()
        self.server.allow(2, True)
        self.assertEqual(self.clients[1].told()[0], (other, "refused"))

    def test_the_output_that_comes_later(self):
        # The object belonged to none when it was bound.
        unknown = self.clients[1].output(77)
        self.server.set_outputs([Output(77, 0, 0, 200, 150, 1, 0)])
        self.server.rounds(1)
        self.clients[1].told()
        capture = self.ask(0, 0, 1, 1, unknown)
        self.assertEqual(self.server.captures(), [(1, 1, "b", None, 0, 0, 1, 1)])
        self.server.allow(1, True)
        self.assertEqual(self.clients[1].told(), [(capture, "refused")])

    def test_numbers(self):
        first, second = self.ask(0, 0, 1, 1), self.ask(0, 0, 2, 1)
        self.clients[1].ask(first, "capture", "destroy")
        self.assertEqual([row[0] for row in self.server.captures()], [2])
        self.assertIs(error_class_of(self.server.allow, 1, True), NothingAsked)
        self.ask(0, 0, 1, 1)
        self.assertEqual([row[0] for row in self.server.captures()], [2, 3])
        self.server.allow(3, False)
        self.server.leave(1)
        self.assertEqual(self.server.captures(), [])
        self.assertIsNotNone(second)

    def test_which_windows_are_in_it(self):
        row = [DESK] * 2 + [RED] * 10
        self.assertEqual(self.allowed(0, 10, 12, 1), row)
        self.server.set_policy("")
        # Its own windows are always in it, and nothing else hides anything.
        self.assertEqual(self.allowed(60, 12, 12, 1), [DESK] * 6 + [GREEN] * 6)
        self.clients[1].ask(self.clients[1].next, "capture", "destroy")
        self.server.set_policy('program c = "c"; program b = "b"; allow capture from c to b;')
        self.assertEqual(self.allowed(40, 20, 100, 1),
                         [DESK] * 26 + [GREEN] * 40 + [DESK] * 24 + [BLUE] * 10)

    def test_what_is_hidden_behind_other_programs(self):
        self.server.set_policy("")
        window, surface = self.clients[2].mapped(80, 60, BLUE)
        self.server.switch(0, 2, window)
        self.clients[2].told()
        self.clients[1].told()
        self.assertEqual(self.allowed(70, 20, 2, 1), [GREEN] * 2)

    def test_the_ground_is_not_in_it(self):
        self.clients[1].paint(self.surfaces[1], 10, 30, GREEN)
        self.assertEqual(self.allowed(60, 20, 20, 1), [DESK] * 6 + [GREEN] * 10 + [DESK] * 4)

    def test_beyond_the_output(self):
        self.assertEqual(self.allowed(-3, -3, 4, 4), [DESK] * 16)
        found = self.allowed(195, 10, 6, 1)
        self.assertEqual(found, [DESK] * 6)

    def test_a_turned_and_scaled_output(self):
        self.server.set_outputs([Output(0, 0, 0, 100, 100, 2, 3)])
        self.server.rounds(1)
        self.told()
        self.assertEqual(self.allowed(0, 20, 8, 1), [DESK] * 4 + [RED] * 4)

    def test_popups(self):
        serial = self.press(0)
        self.release()
        self.clients[0].popup(self.windows[0], at(2, 3, 4, 5), serial)
        self.told()
        self.assertEqual(self.allowed(0, 13, 10, 1), [DESK] * 2 + [RED] * 2 + [0xFF000000] * 4 + [RED] * 2)

    def test_the_picture_stays_as_it_was(self):
        capture = self.ask(2, 10, 1, 1)
        self.server.allow(1, True)
        self.clients[1].told()
        self.server.leave(0)
        self.assertEqual(self.read(capture, 1, 1), [RED])

    def test_a_hidden_window_is_not_in_it(self):
        self.server.motion(0, 19, 5)
        self.server.button(0, 1, True)
        self.server.button(0, 1, False)
        self.told()
        self.assertEqual(self.allowed(2, 10, 2, 1), [DESK] * 2)


if __name__ == "__main__":
    unittest.main()
