"""Points 58, 69, 70 and 74: what one program hears of devices."""

import copy
import unittest

from sillwatch.devices.hearing import Hearing
from sillwatch.devices.keymaps import keymap_text, read_keymap
from sillwatch.objects.replies import Reply
from tests.helpers import ask, fault_of, rows_of

SEAT, SURFACE, OTHER = 5, 70, 71
# Rows of each length, letters and others, and each modifier and lock.
KEYMAP = read_keymap(
    "layout us{10:'a'A;11:'1'!;12:'a'A'b'B;13:'x;14:Return;15:'-;20:mod shift;21:mod shift;22:mod control;23:mod alt;"
    "24:mod level;25:mod super;30:lock caps;31:lock number;32:lock layout;40:'q mod shift;41:'t lock caps;}"
    "layout de{10:'z;32:lock layout;}layout fr{32:'f lock layout;20:mod shift;}"
)


class HearingTest(unittest.TestCase):
    def setUp(self):
        self.hearing = Hearing()
        self.kinds = {}
        self.keymap = KEYMAP
        self.focus = None

    def serve(self, number, interface, name, *arguments):
        reply = Reply()
        request = ask(number, interface, name, *arguments, ends=name == "destroy")
        self.hearing.serve(request, self.keymap, self.focus, reply)
        self.assertEqual(request.arguments, list(arguments))
        self.assertEqual((reply.ended, reply.wishes, reply.applied), ([], [], []))
        return rows_of(reply, self.kinds)

    def make(self, interface, number):
        self.kinds[number] = interface
        return self.serve(SEAT, "seat", interface, number)

    def hear(self, *deed):
        reply = Reply()
        before = copy.deepcopy(self.keymap.layouts)
        self.hearing.hear(deed, self.keymap, reply)
        self.assertEqual(self.keymap.layouts, before)
        self.assertEqual((reply.ended, reply.wishes, reply.applied), ([], [], []))
        return rows_of(reply, self.kinds)

    def press(self, code):
        """Press a key, and return what the first keyboard's symbol tells."""
        rows = self.hear("key", code, 1, 0)
        self.assertEqual([row[1] for row in rows], ["key", "symbol"])
        return rows[1][2:]

    def release(self, code):
        return self.hear("key", code, 0, 0)


class Devices(HearingTest):
    def test_nothing_at_first(self):
        hearing = self.hearing
        self.assertEqual((hearing.pointers, hearing.keyboards, hearing.serial, hearing.grant), ([], [], 0, None))

    def test_made(self):
        self.assertEqual(self.make("pointer", 10), [])
        self.assertEqual(self.make("pointer", 9), [])
        self.assertEqual(self.make("keyboard", 20), [(20, "keymap", keymap_text(KEYMAP))])
        self.assertEqual((self.hearing.pointers, self.hearing.keyboards), ([10, 9], [20]))

    def test_a_keyboard_with_the_focus(self):
        self.focus = SURFACE
        self.assertEqual(self.make("keyboard", 20), [(20, "keymap", keymap_text(KEYMAP)), (20, "enter", SURFACE)])
        self.assertEqual(self.make("pointer", 21), [])

    def test_the_canonical_text(self):
        self.keymap = read_keymap(" layout  a { 2 : 'b ; 1 : x y ; } ")
        self.assertEqual(self.make("keyboard", 20), [(20, "keymap", "layout a{1:x y;2:'b;}")])

    def test_how_many(self):
        for number in range(4):
            self.make("pointer", 10 + number)
            self.make("keyboard", 20 + number)
        for interface in ("pointer", "keyboard"):
            request = ask(SEAT, "seat", interface, 30)
            fault = fault_of(self.hearing.serve, request, KEYMAP, None, Reply())
            self.assertEqual(fault, (SEAT, 7, "too many devices"))
        self.assertEqual(len(self.hearing.pointers) + len(self.hearing.keyboards), 8)
        self.serve(21, "keyboard", "destroy")
        self.assertEqual(self.make("pointer", 30), [])
        self.assertEqual(self.hearing.pointers, [10, 11, 12, 13, 30])

    def test_eight_of_one_kind(self):
        for number in range(8):
            self.make("keyboard", 20 + number)
        request = ask(SEAT, "seat", "pointer", 30)
        self.assertEqual(fault_of(self.hearing.serve, request, KEYMAP, None, Reply()), (SEAT, 7, "too many devices"))

    def test_destroyed(self):
        for number in (10, 11, 12):
            self.make("pointer", number)
        self.assertEqual(self.serve(11, "pointer", "destroy"), [])
        self.assertEqual(self.hear("leave", SURFACE), [(10, "leave", SURFACE), (12, "leave", SURFACE)])

    def test_cursor(self):
        self.make("pointer", 10)
        for number in (0, 7):
            self.assertEqual(self.serve(10, "pointer", "cursor", number), [])
        for number in (8, 2 ** 32 - 1):
            request = ask(10, "pointer", "cursor", number)
            self.assertEqual(fault_of(self.hearing.serve, request, KEYMAP, None, Reply()), (10, 8, "bad cursor"))


class Pointers(HearingTest):
    DEEDS = (
        ("enter", SURFACE, -3, 4), ("leave", SURFACE), ("motion", 5, -6, 7), ("button", 1, 1, 8), ("button", 1, 0, 9),
        ("axis", -10, 11, 12),
    )

    def test_without_a_pointer(self):
        self.make("keyboard", 20)
        for deed in self.DEEDS:
            self.assertEqual(self.hear(*deed), [])
        self.assertEqual((self.hearing.serial, self.hearing.grant), (0, None))

    def test_each_deed(self):
        self.make("pointer", 10)
        self.assertEqual(self.hear("enter", SURFACE, -3, 4), [(10, "enter", SURFACE, -3, 4)])
        self.assertEqual(self.hear("motion", 5, -6, 7), [(10, "motion", 5, -6, 7)])
        self.assertEqual(self.hear("axis", -10, 11, 12), [(10, "axis", -10, 11, 12)])
        self.assertEqual(self.hear("leave", SURFACE), [(10, "leave", SURFACE)])
        self.assertEqual((self.hearing.serial, self.hearing.grant), (0, None))

    def test_two_pointers(self):
        self.make("pointer", 11)
        self.make("pointer", 10)
        self.assertEqual(self.hear("motion", 1, 2, 3), [(11, "motion", 1, 2, 3), (10, "motion", 1, 2, 3)])
        self.assertEqual(self.hear("button", 4, 1, 5), [(11, "button", 1, 4, 1, 5), (10, "button", 1, 4, 1, 5)])
        self.assertEqual(self.hear("button", 4, 0, 6), [(11, "button", 2, 4, 0, 6), (10, "button", 2, 4, 0, 6)])
        self.assertEqual((self.hearing.serial, self.hearing.grant), (2, 1))

    def test_time(self):
        self.make("pointer", 10)
        self.make("keyboard", 20)
        late = 2 ** 32 + 5
        self.assertEqual(self.hear("motion", 1, 2, late), [(10, "motion", 1, 2, 5)])
        self.assertEqual(self.hear("axis", 1, 2, late), [(10, "axis", 1, 2, 5)])
        self.assertEqual(self.hear("button", 1, 1, late), [(10, "button", 1, 1, 1, 5)])
        self.assertEqual(self.hear("key", 99, 1, late)[0], (20, "key", 2, 99, 1, 5))

    def test_a_release_that_was_told(self):
        self.make("pointer", 10)
        self.hear("button", 1, 1, 5)
        self.hear("button", 1, 0, 6)
        self.assertEqual(self.hear("button", 1, 0, 7), [])

    def test_a_press_without_a_pointer(self):
        self.assertEqual(self.hear("button", 1, 1, 5), [])
        self.make("pointer", 10)
        self.assertEqual(self.hear("button", 1, 0, 6), [])
        self.assertEqual(self.hearing.serial, 0)

    def test_a_release_without_a_pointer(self):
        self.make("pointer", 10)
        self.hear("button", 1, 1, 5)
        self.serve(10, "pointer", "destroy")
        self.assertEqual(self.hear("button", 1, 0, 6), [])
        self.assertEqual(self.hearing.serial, 1)
        self.make("pointer", 11)
        self.assertEqual(self.hear("button", 1, 0, 7), [])

    def test_a_release_by_another_pointer(self):
        # The program was told the press.
        self.make("pointer", 10)
        self.hear("button", 3, 1, 5)
        self.serve(10, "pointer", "destroy")
        self.make("pointer", 11)
        self.assertEqual(self.hear("button", 3, 0, 6), [(11, "button", 2, 3, 0, 6)])

    def test_a_press_that_was_not_told_behind_one_that_was(self):
        # The release of the first press went to nobody.
        self.make("pointer", 10)
        self.hear("button", 1, 1, 5)
        self.serve(10, "pointer", "destroy")
        self.hear("button", 1, 1, 6)
        self.make("pointer", 11)
        self.assertEqual(self.hear("button", 1, 0, 7), [])

    def test_several_buttons(self):
        self.make("pointer", 10)
        self.hear("button", 1, 1, 5)
        self.hear("button", 2, 1, 5)
        self.assertEqual(self.hear("button", 1, 0, 5), [(10, "button", 3, 1, 0, 5)])
        self.assertEqual(self.hear("button", 2, 0, 5), [(10, "button", 4, 2, 0, 5)])


class SerialsAndGrants(HearingTest):
    def setUp(self):
        super().setUp()
        self.make("pointer", 10)
        self.make("keyboard", 20)

    def test_serials_of_all_objects(self):
        self.assertEqual(self.hear("button", 1, 1, 0)[0][2], 1)
        self.assertEqual(self.hear("key", 10, 1, 0)[0][2], 2)
        self.assertEqual(self.hear("button", 1, 0, 0)[0][2], 3)
        self.assertEqual(self.release(10)[0][2], 4)
        self.assertEqual(self.hearing.serial, 4)

    def test_a_press_gives_a_grant(self):
        self.hear("button", 1, 1, 0)
        self.assertEqual(self.hearing.grant, 1)
        self.hear("key", 10, 1, 0)
        self.assertEqual(self.hearing.grant, 2)
        self.hear("button", 1, 0, 0)
        self.release(10)
        self.assertEqual(self.hearing.grant, 2)

    def test_a_grant_is_spent(self):
        self.hear("button", 1, 1, 0)
        self.hearing.spend()
        self.assertIsNone(self.hearing.grant)
        self.hear("button", 1, 0, 0)
        self.assertIsNone(self.hearing.grant)
        self.hear("button", 1, 1, 0)
        self.assertEqual(self.hearing.grant, 3)

    def test_a_grant_is_gone_with_the_focus(self):
        self.hear("button", 1, 1, 0)
        self.assertEqual(self.hear("focus", SURFACE), [(20, "enter", SURFACE)])
        self.assertEqual(self.hearing.grant, 1)
        self.assertEqual(self.hear("unfocus", SURFACE), [(20, "leave", SURFACE)])
        self.assertIsNone(self.hearing.grant)

    def test_unfocus_without_a_surface(self):
        self.hear("key", 20, 1, 0)
        self.assertEqual(self.hear("unfocus", None), [])
        self.assertIsNone(self.hearing.grant)
        self.assertEqual(self.release(20), [])

    def test_other_deeds_leave_the_grant(self):
        self.hear("button", 1, 1, 0)
        for deed in [("enter", 1, 2, 3), ("leave", 1), ("motion", 1, 2, 3), ("axis", 1, 2, 3), ("focus", 1)]:
            self.hear(*deed)
        self.hearing.keymap_set(KEYMAP, Reply())
        self.assertEqual((self.hearing.grant, self.hearing.serial), (1, 1))


class Keys(HearingTest):
    def setUp(self):
        super().setUp()
        self.make("keyboard", 20)

    def test_a_press_and_a_release(self):
        self.assertEqual(self.hear("key", 10, 1, 7), [(20, "key", 1, 10, 1, 7), (20, "symbol", "a", "a", 0)])
        self.assertEqual(self.hear("key", 10, 0, 8), [(20, "key", 2, 10, 0, 8)])
        self.assertEqual(self.hear("key", 10, 0, 9), [])
        self.assertEqual(self.hearing.serial, 2)

    def test_without_a_keyboard(self):
        self.serve(20, "keyboard", "destroy")
        self.make("pointer", 10)
        self.assertEqual(self.hear("key", 20, 1, 7), [])
        self.assertEqual(self.hear("focus", SURFACE), [])
        self.assertEqual((self.hearing.serial, self.hearing.grant), (0, None))
        # The state changes only by keys that are told.
        self.make("keyboard", 21)
        self.assertEqual(self.press(10), ("a", "a", 0))

    def test_two_keyboards(self):
        self.make("keyboard", 19)
        self.assertEqual(self.hear("key", 10, 1, 7), [
            (20, "key", 1, 10, 1, 7), (20, "symbol", "a", "a", 0), (19, "key", 1, 10, 1, 7), (19, "symbol", "a", "a", 0),
        ])
        self.assertEqual(self.hear("key", 10, 0, 8), [(20, "key", 2, 10, 0, 8), (19, "key", 2, 10, 0, 8)])
        self.assertEqual(self.hear("focus", 5), [(20, "enter", 5), (19, "enter", 5)])
        self.assertEqual(self.hear("unfocus", 5), [(20, "leave", 5), (19, "leave", 5)])

    def test_a_code_without_a_row(self):
        self.assertEqual(self.press(99), ("", "", 0))
        self.assertEqual(self.release(99), [(20, "key", 2, 99, 0, 0)])
        self.press(22)
        self.assertEqual(self.press(99), ("", "", 2))

    def test_no_layouts(self):
        self.keymap = read_keymap("")
        self.assertEqual(self.press(10), ("", "", 0))

    def test_kinds_of_symbols(self):
        self.assertEqual(self.press(14), ("Return", "", 0))
        self.assertEqual(self.press(13), ("x", "x", 0))
        self.assertEqual(self.press(20), ("shift", "", 1))
        self.assertEqual(self.press(30), ("caps", "", 33))

    def test_each_modifier(self):
        for code, name, weight in [(20, "shift", 1), (22, "control", 2), (23, "alt", 4), (24, "level", 8),
                                   (25, "super", 16)]:
            self.assertEqual(self.press(code), (name, "", weight))
            self.assertEqual(self.press(14), ("Return", "", weight))
            self.release(code)
            self.assertEqual(self.press(14), ("Return", "", 0))

    def test_modifiers_add_up(self):
        for code in (20, 22, 23, 24, 25):
            self.press(code)
        self.press(30)
        self.assertEqual(self.press(31)[2], 127)
        self.release(22)
        self.assertEqual(self.press(14)[2], 125)

    def test_each_lock(self):
        for code, name, weight in [(30, "caps", 32), (31, "number", 64)]:
            self.assertEqual(self.press(code), (name, "", weight))
            self.release(code)
            self.assertEqual(self.press(14), ("Return", "", weight))
            self.assertEqual(self.press(code), (name, "", 0))
            self.release(code)
            self.assertEqual(self.press(14), ("Return", "", 0))

    def test_levels(self):
        self.assertEqual(self.press(12)[0], "a")
        self.press(20)
        self.assertEqual([self.press(code)[0] for code in (10, 12, 13)], ["A", "A", "x"])
        self.press(24)
        self.assertEqual([self.press(code)[0] for code in (10, 12, 13)], ["A", "B", "x"])
        self.release(20)
        self.assertEqual([self.press(code)[0] for code in (10, 12, 13)], ["A", "b", "x"])

    def test_a_modifier_that_two_keys_hold(self):
        self.press(20)
        self.assertEqual(self.press(21), ("shift", "", 1))
        self.release(20)
        self.assertEqual(self.press(10), ("A", "A", 1))
        self.release(21)
        self.assertEqual(self.press(10), ("a", "a", 0))

    def test_what_is_held_counts_as_before_the_press(self):
        self.press(20)
        # Shift makes this key hold shift, and not the letter that it gives without.
        self.assertEqual(self.press(40), ("shift", "", 1))
        self.release(20)
        self.assertEqual(self.press(10), ("A", "A", 1))
        self.release(40)
        self.assertEqual(self.press(40), ("q", "q", 0))

    def test_a_lock_behind_shift(self):
        self.assertEqual(self.press(41), ("t", "t", 0))
        self.press(20)
        self.assertEqual(self.press(41), ("caps", "", 33))

    def test_no_text_with_control_alt_and_super(self):
        for code, weight in [(22, 2), (23, 4), (25, 16)]:
            self.press(code)
            self.assertEqual(self.press(10), ("a", "", weight))
            self.release(code)
        for code, weight in [(20, 1), (24, 8)]:
            self.press(code)
            self.assertNotEqual(self.press(10)[1], "")
            self.release(code)

    def test_caps(self):
        self.press(30)
        self.assertEqual(self.press(10), ("A", "A", 32))
        self.assertEqual(self.press(11), ("1", "1", 32))
        self.assertEqual(self.press(15), ("-", "-", 32))
        self.assertEqual(self.press(14), ("Return", "", 32))
        self.press(20)
        self.assertEqual(self.press(10), ("a", "a", 33))
        self.assertEqual(self.press(13), ("x", "x", 33))
        self.assertEqual(self.press(11), ("!", "!", 33))
        self.press(22)
        self.assertEqual(self.press(10), ("a", "", 35))

    def test_caps_of_a_capital_letter(self):
        self.keymap = read_keymap("layout a{10:'A'a;20:mod shift;30:lock caps;}")
        self.press(30)
        self.assertEqual(self.press(10), ("A", "A", 32))
        self.press(20)
        self.assertEqual(self.press(10), ("a", "a", 33))

    def test_number_changes_no_symbol(self):
        self.press(31)
        self.assertEqual(self.press(10), ("a", "a", 64))

    def test_lock_layout(self):
        self.assertEqual(self.press(32), ("layout", "", 0))
        self.assertEqual(self.press(10), ("z", "z", 0))
        self.assertEqual(self.press(11), ("", "", 0))
        self.press(32)
        self.assertEqual(self.press(10), ("", "", 0))
        # The first symbol of the third layout's row is another one.
        self.assertEqual(self.press(32), ("f", "f", 0))
        self.press(20)
        self.assertEqual(self.press(32), ("layout", "", 1))
        self.assertEqual(self.press(12)[0], "A")

    def test_lock_layout_with_one(self):
        self.keymap = read_keymap("layout a{1:'b;2:lock layout;}")
        self.assertEqual(self.press(2), ("layout", "", 0))
        self.assertEqual(self.press(1), ("b", "b", 0))


class BeginningAnew(HearingTest):
    def setUp(self):
        super().setUp()
        self.make("keyboard", 20)

    def test_focus_releases_keys(self):
        for deed in (("focus", SURFACE), ("unfocus", SURFACE)):
            self.press(20)
            self.press(10)
            self.press(30)
            self.hear(*deed)
            self.assertEqual(self.release(10), [])
            self.assertEqual(self.press(13)[2], 32)
            self.press(30)

    def test_focus_leaves_locks_and_layout(self):
        self.press(31)
        self.press(32)
        self.hear("unfocus", SURFACE)
        self.hear("focus", OTHER)
        self.assertEqual(self.press(10), ("z", "z", 64))

    def test_the_end_of_the_last_keyboard(self):
        self.make("keyboard", 21)
        self.press_all(20, 30)
        self.serve(20, "keyboard", "destroy")
        self.assertEqual(self.press(10), ("a", "a", 33))
        self.serve(21, "keyboard", "destroy")
        self.make("keyboard", 22)
        self.assertEqual(self.release(20), [])
        self.assertEqual(self.press(10), ("A", "A", 32))

    def press_all(self, *codes):
        for code in codes:
            self.hear("key", code, 1, 0)

    def test_another_keymap(self):
        self.make("keyboard", 21)
        self.make("pointer", 10)
        self.press_all(20, 31, 32)
        keymap = read_keymap("layout a{10:'k;}layout b{10:'l;}")
        reply = Reply()
        self.hearing.keymap_set(keymap, reply)
        text = "layout a{10:'k;}layout b{10:'l;}"
        self.assertEqual(rows_of(reply, self.kinds), [(20, "keymap", text), (21, "keymap", text)])
        self.keymap = keymap
        self.assertEqual(self.release(20), [])
        self.assertEqual(self.hear("key", 10, 1, 0)[1], (20, "symbol", "k", "k", 0))

    def test_a_keymap_without_a_keyboard(self):
        self.serve(20, "keyboard", "destroy")
        reply = Reply()
        self.hearing.keymap_set(KEYMAP, reply)
        self.assertEqual(reply.told, [])


if __name__ == "__main__":
    unittest.main()
