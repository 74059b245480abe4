"""Points 50, 51, 65 to 71 and 107: users' actions, as all programs together are told of them."""

import unittest

from sillwatch.octets.messages import cut_messages, encode_message
from sillwatch.outputs import Output
from tests.client import ALL_FLOWS, Client, server_of
from tests.program import at

KEYMAP = "layout us{10:'a'A;20:mod shift;30:lock caps;}"
# The title bar's buttons of a frame (0, 0, 44, 42).
CLOSE, MAXIMIZE, MINIMIZE, MOVE = (40, 5), (29, 5), (19, 5), (5, 5)


class ActionsTest(unittest.TestCase):
    """Two programs with a pointer and a keyboard each; the first one has a window at the top on the left."""

    def setUp(self):
        self.server = server_of([Output(0, 0, 0, 200, 150, 1, 0)], ALL_FLOWS, KEYMAP)
        self.clients = [Client(self.server, slot, "ab"[slot], 100 + 1000 * slot).start() for slot in (0, 1)]
        self.pointers = [client.pointer() for client in self.clients]
        self.keyboards = [client.keyboard() for client in self.clients]
        self.windows = []
        self.surfaces = []
        for client in self.clients:
            window, surface = client.mapped()
            self.windows.append(window)
            self.surfaces.append(surface)
        # The second window is moved to (100, 50).
        self.server.switch(0, 1, self.windows[1])
        self.settle()
        self.server.motion(0, *MOVE)
        self.press()
        self.server.motion(0, 105, 55)
        self.release()
        self.server.switch(0, 0, self.windows[0])
        self.server.motion(0, 199, 149)
        self.settle()
        self.told()

    def settle(self):
        self.server.tick(0)

    def told(self):
        return [client.told() for client in self.clients]

    def press(self, number=1):
        self.server.button(0, number, True)

    def release(self, number=1):
        self.server.button(0, number, False)

    def frames(self):
        return [client.frame(window) for client, window in zip(self.clients, self.windows)]


class Orders(ActionsTest):
    def test_where_they_stand(self):
        self.assertEqual(self.frames(), [(0, 0, 44, 42), (100, 50, 44, 42)])
        self.assertEqual([row[8] for row in self.server.windows()], [False, True])

    def test_a_motion(self):
        self.server.motion(7, 10, 20)
        self.assertEqual(self.told(), [[(self.pointers[0], "enter", self.surfaces[0], 8, 10)], []])
        self.server.motion(8, 110, 70)
        self.assertEqual(self.told(), [
            [(self.pointers[0], "leave", self.surfaces[0])], [(self.pointers[1], "enter", self.surfaces[1], 8, 10)],
        ])

    def test_a_press(self):
        self.server.motion(0, 110, 70)
        self.told()
        self.press(3)
        keyboards, pointers = self.keyboards, self.pointers
        self.assertEqual(self.told(), [
            [(keyboards[0], "leave", self.surfaces[0]), (self.windows[0], "configure", 4, 40, 30, 0)],
            [
                (pointers[1], "motion", 8, 10, 0), (keyboards[1], "enter", self.surfaces[1]),
                (pointers[1], "button", 1, 3, 1, 0), (self.windows[1], "configure", 5, 40, 30, 2),
            ],
        ])
        self.assertEqual([row[2] for row in self.server.windows()], self.windows)

    def test_a_press_with_popups(self):
        # Both programs have a popup with a grant; the press is on the second window, aside from its popup.
        popups = []
        for slot, (x, y) in enumerate([(10, 20), (110, 70)]):
            self.server.motion(0, x, y)
            self.press()
            self.release()
            serial = [row[2] for row in self.told()[slot] if row[1] == "button"][0]
            popups.append(self.clients[slot].popup(self.windows[slot], at(30, 20, 5, 5), serial)[0])
            self.settle()
            self.told()
        self.server.motion(0, 10, 20)
        self.told()
        self.press()
        told = self.told()
        self.assertEqual([row[:2] for row in told[0]], [
            (self.pointers[0], "motion"), (self.keyboards[0], "enter"), (self.pointers[0], "button"),
            (self.windows[0], "configure"),
        ])
        self.assertEqual([row[:2] for row in told[1]], [
            (popups[1], "done"), (self.keyboards[1], "leave"), (self.windows[1], "configure"),
        ])

    def test_a_press_on_nothing_dismisses_all(self):
        popups = []
        for slot, (x, y) in enumerate([(10, 20), (110, 70)]):
            self.server.motion(0, x, y)
            self.press()
            self.release()
            serial = [row[2] for row in self.told()[slot] if row[1] == "button"][0]
            popups.append(self.clients[slot].popup(self.windows[slot], at(30, 20, 5, 5), serial)[0])
            self.settle()
        self.server.motion(0, 199, 149)
        self.told()
        self.press()
        # That of the first program was dismissed by the press on the window of the second one.
        self.assertEqual(self.told(), [[], [(popups[1], "done")]])

    def test_a_switch(self):
        self.server.switch(5, 1, self.windows[1])
        self.assertEqual(self.told(), [
            [(self.keyboards[0], "leave", self.surfaces[0]), (self.windows[0], "configure", 4, 40, 30, 0)],
            [(self.keyboards[1], "enter", self.surfaces[1]), (self.windows[1], "configure", 5, 40, 30, 2)],
        ])
        self.server.switch(5, 1, self.windows[1])
        self.server.switch(5, 1, 99)
        self.server.switch(5, 2, self.windows[1])
        self.assertEqual(self.told(), [[], []])

    def test_keys(self):
        self.server.key(2 ** 32 + 3, 20, True)
        self.server.key(2 ** 32 + 3, 10, True)
        self.server.key(2 ** 32 + 3, 10, True)
        self.server.key(2 ** 32 + 4, 10, False)
        keyboard = self.keyboards[0]
        self.assertEqual(self.told(), [[
            (keyboard, "key", 1, 20, 1, 3), (keyboard, "symbol", "shift", "", 1), (keyboard, "key", 2, 10, 1, 3),
            (keyboard, "symbol", "A", "A", 1), (keyboard, "key", 3, 10, 0, 4),
        ], []])

    def test_a_new_keyboard(self):
        client, keyboard = self.clients[0], self.clients[0].new("keyboard")
        told = client.ask(7, "seat", "keyboard", keyboard)
        self.assertEqual(told, [(keyboard, "keymap", KEYMAP), (keyboard, "enter", self.surfaces[0])])
        client, keyboard = self.clients[1], self.clients[1].new("keyboard")
        self.assertEqual(client.ask(7, "seat", "keyboard", keyboard), [(keyboard, "keymap", KEYMAP)])

    def test_windows_with_the_same_number(self):
        server = server_of()
        clients = [Client(server, slot, "a").start() for slot in (0, 1)]
        windows = [client.mapped()[0] for client in clients]
        self.assertEqual(windows[0], windows[1])
        server.rounds(1)
        for client in clients:
            client.told()
        server.switch(0, 0, windows[0])
        self.assertEqual([[row[-1] for row in client.told()] for client in clients], [[2], []])
        keyboards = [client.new("keyboard") for client in clients]
        told = [client.ask(7, "seat", "keyboard", number) for client, number in zip(clients, keyboards)]
        self.assertEqual([[row[1] for row in rows] for rows in told], [["keymap", "enter"], ["keymap"]])

    def test_axis(self):
        self.server.axis(0, 1, 2)
        self.assertEqual(self.told(), [[], []])
        self.server.motion(0, 110, 70)
        self.server.axis(4, -5, 6)
        self.assertEqual(self.told()[1][1:], [(self.pointers[1], "axis", -5, 6, 4)])

    def test_a_release(self):
        self.server.motion(0, 10, 20)
        self.press()
        self.server.motion(0, 110, 70)
        self.told()
        self.release()
        self.assertEqual(self.told(), [
            [(self.pointers[0], "button", 2, 1, 0, 0), (self.pointers[0], "leave", self.surfaces[0])],
            [(self.pointers[1], "enter", self.surfaces[1], 8, 10)],
        ])

    def test_octet_by_octet(self):
        self.server.motion(2 ** 32 + 258, 10, 20)
        octets, _ = self.server.receive(0, 1000)
        expected = encode_message(self.pointers[0], 0, [("object", self.surfaces[0]), ("int", 8), ("int", 10)])
        self.assertEqual(octets, expected)
        self.server.tick(2 ** 32 + 258)
        self.server.button(2 ** 32 + 258, 1, True)
        octets, _ = self.server.receive(0, 1000)
        self.assertEqual(octets, (
            encode_message(self.pointers[0], 2, [("int", 8), ("int", 10), ("uint", 258)])
            + encode_message(self.pointers[0], 3, [("uint", 1), ("uint", 1), ("uint", 1), ("uint", 258)])
        ))
        self.assertEqual(cut_messages(octets)[2], False)


class Frames(ActionsTest):
    def hold(self, place):
        self.server.motion(0, *place)
        self.press()
        self.told()

    def test_moving(self):
        self.hold(MOVE)
        self.server.motion(0, 25, 15)
        self.assertEqual(self.frames()[0], (20, 10, 44, 42))
        self.assertEqual(self.told(), [[], []])

    def test_resizing(self):
        self.hold((43, 41))
        self.server.motion(0, 53, 44)
        self.assertEqual(self.frames()[0], (0, 0, 54, 45))
        self.assertEqual(self.told(), [[(self.windows[0], "configure", 4, 50, 33, 2)], []])

    def test_outputs_that_are_met_and_left(self):
        self.server.set_outputs([Output(0, 0, 0, 200, 150, 1, 0), Output(1, 200, 0, 100, 100, 1, 0)])
        self.hold(MOVE)
        self.server.motion(0, 185, 5)
        self.assertEqual(self.told(), [[(self.windows[0], "output", 1)], []])
        self.server.motion(0, 215, 5)
        self.assertEqual(self.told(), [[(self.windows[0], "left", 0)], []])

    def test_close(self):
        self.hold(CLOSE)
        self.release()
        self.assertEqual(self.told(), [[(self.windows[0], "close")], []])
        self.assertEqual(len(self.server.windows()), 2)

    def test_maximize(self):
        self.hold(MAXIMIZE)
        self.release()
        self.assertEqual(self.told(), [[(self.windows[0], "configure", 4, 196, 138, 3)], []])
        self.assertEqual(self.server.windows()[1][5:7], ((0, 0, 200, 150), True))
        self.settle()
        self.hold((185, 5))
        self.release()
        self.assertEqual(self.told(), [[(self.windows[0], "configure", 5, 40, 30, 2)], []])

    def test_minimize(self):
        self.hold(MINIMIZE)
        self.release()
        self.assertEqual(self.told(), [
            [(self.keyboards[0], "leave", self.surfaces[0]), (self.windows[0], "configure", 4, 40, 30, 0)], [],
        ])
        row = self.server.windows()[1]
        self.assertEqual((row[2], row[7], row[8]), (self.windows[0], True, False))
        self.settle()
        self.assertEqual(self.server.picture(0, 0, 0, 1, 1), [0xFF202030])
        # A hidden window is told of its frame.
        told = self.clients[0].ask(self.windows[0], "window", "smaller", 30, 20)
        self.assertEqual(told, [(self.windows[0], "configure", 5, 30, 20, 0)])
        self.server.switch(0, 0, self.windows[0])
        self.assertEqual(self.told()[0], [
            (self.keyboards[0], "enter", self.surfaces[0]), (self.windows[0], "configure", 6, 30, 20, 2),
        ])

    def test_popups_of_the_program(self):
        for place, then in [(MOVE, (6, 5)), (MAXIMIZE, None), (MINIMIZE, None), (CLOSE, None)]:
            self.setUp()
            self.server.motion(0, 10, 20)
            self.press()
            self.release()
            serial = [row[2] for row in self.told()[0] if row[1] == "button"][0]
            popup, _ = self.clients[0].popup(self.windows[0], at(30, 20, 5, 5), serial)
            self.settle()
            self.hold(place)
            if then is None:
                self.release()
            else:
                self.server.motion(0, *then)
            self.assertEqual((popup, "done") in self.told()[0], place != CLOSE)

    def test_another_program_s_window_is_never_lifted_over(self):
        window, surface = self.clients[1].mapped(80, 80)
        self.assertEqual(self.server.windows()[0][2], window)
        self.clients[1].ask(window, "window", "raise", 1)
        self.assertEqual(self.server.windows()[0][2], window)

    def test_a_maximized_window_that_is_kept(self):
        server = server_of()
        client = Client(server).start()
        client.mapped(name="n")
        server.tick(0)
        server.motion(0, *MAXIMIZE)
        server.button(0, 1, True)
        server.button(0, 1, False)
        server.leave(0)
        client = Client(server).start()
        window, surface = client.window("n")
        told = client.paint(surface, 40, 30)
        self.assertEqual(told, [(window, "output", 0), (window, "configure", 2, 196, 138, 1)])
        self.assertEqual(client.ask(window, "window", "restore"), [(window, "configure", 3, 40, 30, 0)])


class Lost(ActionsTest):
    def test_a_grip(self):
        self.server.motion(0, 10, 20)
        self.press()
        self.told()
        self.clients[0].hide(self.surfaces[0])
        self.server.motion(0, 12, 20)
        self.server.axis(0, 1, 1)
        self.release()
        self.assertEqual(self.told(), [[], []])

    def test_a_grip_with_the_end_of_the_program(self):
        self.server.motion(0, 10, 20)
        self.press()
        self.server.leave(0)
        client = Client(self.server, 0, "a").start()
        client.pointer()
        client.mapped()
        self.server.motion(0, 12, 20)
        self.release()
        self.assertEqual(client.told()[2:], [])

    def test_a_window_of_nobody_is_not_settled(self):
        # The same number, slot and place, but of another program.
        frame = self.frames()[0]
        self.server.leave(0)
        client = Client(self.server, 0, "a", 100).start()
        client.pointer()
        client.keyboard()
        window, surface = client.mapped()
        self.assertEqual((window, client.frame(window)), (self.windows[0], frame))
        self.server.motion(0, 10, 20)
        client.told()
        self.press()
        self.assertEqual(client.told(), [])
        self.release()
        self.settle()
        self.press()
        self.assertEqual([row[1] for row in client.told()], ["motion", "enter", "button", "configure"])

    def test_focus_goes_with_the_window(self):
        self.clients[0].hide(self.surfaces[0])
        self.server.key(0, 10, True)
        self.assertEqual(self.told(), [[], []])
        self.assertEqual([row[8] for row in self.server.windows()], [False])


class Guard(ActionsTest):
    def test_a_window_that_comes_under_the_pointer(self):
        self.server.set_guard(100)
        self.server.tick(1000)
        self.server.motion(1000, 60, 60)
        window, surface = self.clients[1].mapped(80, 80)
        self.server.tick(1050)
        self.told()
        for time in (1050, 1149):
            self.server.button(time, 1, True)
            self.server.button(time, 1, False)
            self.assertEqual(self.told(), [[], []])
        self.server.button(1150, 1, True)
        self.assertIn("button", [row[1] for row in self.told()[1]])


if __name__ == "__main__":
    unittest.main()
