"""Points 72 to 74: keymaps, their canonical texts, their problems, and what symbol a code gives."""

import unittest

from sillwatch.devices.keymaps import Keymap, keymap_text, read_keymap, symbol_of
from sillwatch.errors import BadKeymap

ROW = "layout a{1:'a;}"


def problem_of(text):
    """Return the place and the words of the problem of a text, or None."""
    try:
        read_keymap(text)
    except BadKeymap as error:
        return error.place, error.words
    return None


def layouts(count):
    return "".join([f"layout n{number}{{}}" for number in range(count)])


class Reading(unittest.TestCase):
    def check(self, text, expected):
        self.assertEqual(read_keymap(text).layouts, expected)

    def test_no_layout(self):
        self.check("", [])
        self.check("   ", [])
        self.assertEqual(keymap_text(read_keymap("  ")), "")

    def test_field(self):
        self.assertEqual(Keymap([("a", {})]).layouts, [("a", {})])

    def test_layouts(self):
        self.check("layout a{}", [("a", {})])
        self.check(layouts(4), [(f"n{number}", {}) for number in range(4)])
        self.check("layout layout{}layout mod{}", [("layout", {}), ("mod", {})])

    def test_symbols_of_each_kind(self):
        self.check("layout us{1:'a mod shift lock caps Return;}", [
            ("us", {1: [("character", "a"), ("mod", "shift"), ("lock", "caps"), ("name", "Return")]}),
        ])

    def test_all_modifiers_and_locks(self):
        for word in ("shift", "control", "alt", "level", "super"):
            self.check(f"layout a{{7:mod {word};}}", [("a", {7: [("mod", word)]})])
        for word in ("caps", "number", "layout"):
            self.check(f"layout a{{7:lock {word};}}", [("a", {7: [("lock", word)]})])

    def test_words_as_names(self):
        # Only behind them do these words mean anything else.
        names = [("name", "shift"), ("name", "layout"), ("name", "caps")]
        self.check("layout a{1:shift layout caps;}", [("a", {1: names})])

    def test_codes(self):
        self.check("layout a{1:x;}", [("a", {1: [("name", "x")]})])
        self.check("layout a{255:x;}", [("a", {255: [("name", "x")]})])
        self.check("layout a{100:x;9:y;}", [("a", {100: [("name", "x")], 9: [("name", "y")]})])

    def test_a_code_in_two_layouts(self):
        self.check("layout a{5:x;}layout b{5:y;}", [("a", {5: [("name", "x")]}), ("b", {5: [("name", "y")]})])

    def test_how_many_symbols(self):
        self.check("layout a{1:'1;}", [("a", {1: [("character", "1")]})])
        self.check("layout a{1:'1'2'3'4;}", [("a", {1: [("character", word) for word in "1234"]})])

    def test_names(self):
        name = "_aZ90123456789012345"
        self.assertEqual(len(name), 20)
        self.check(f"layout {name}{{1:{name};}}", [(name, {1: [("name", name)]})])

    def test_characters(self):
        self.check("layout a{1:' ''';'{;}", [
            ("a", {1: [("character", " "), ("character", "'"), ("character", ";"), ("character", "{")]}),
        ])

    def test_each_character(self):
        for code in range(32, 127):
            character = chr(code)
            text = f"layout a{{1:'{character};}}"
            if character == "%":
                self.assertEqual(problem_of(text), (11, "expected a word"))
            else:
                self.check(text, [("a", {1: [("character", character)]})])

    def test_spaces_where_they_may_stand(self):
        expected = [("a", {1: [("character", "b"), ("mod", "alt"), ("name", "x")]})]
        self.check("layout a{1:'b mod alt x;}", expected)
        self.check("layout a{1:'bmod alt x;}", expected)
        self.check("  layout  a  {  1  :  'b  mod  alt  x  ;  }  ", expected)

    def test_spaces_where_they_may_not_stand(self):
        self.assertEqual(problem_of("layouta{}"), (0, "expected layout"))
        self.assertEqual(problem_of("lay out a{}"), (0, "expected layout"))
        self.assertEqual(problem_of("layout a b{}"), (9, "expected {"))
        self.assertEqual(problem_of("layout a{1 2:x;}"), (11, "expected :"))
        self.assertEqual(problem_of("layout a{1:modalt;}"), None)
        self.check("layout a{1:modalt;}", [("a", {1: [("name", "modalt")]})])
        # The blank is the character here.
        self.check("layout a{1:' b;}", [("a", {1: [("character", " "), ("name", "b")]})])

    def test_other_blanks(self):
        for blank in "\n\t\r\u00a0":
            self.assertEqual(problem_of("layout a{}" + blank), (10, "expected a word"))


class CanonicalText(unittest.TestCase):
    def check(self, text, expected):
        keymap = read_keymap(text)
        before = repr(keymap.layouts)
        self.assertEqual(keymap_text(keymap), expected)
        self.assertEqual(repr(keymap.layouts), before)
        again = read_keymap(expected)
        self.assertEqual([(name, dict(rows)) for name, rows in again.layouts],
                         [(name, dict(rows)) for name, rows in keymap.layouts])
        self.assertEqual(keymap_text(again), expected)

    def test_spaces(self):
        self.check(" layout  a { 1 : 'b mod  alt x ; } ", "layout a{1:'bmod alt x;}")
        self.check("layout a{1:x 'b y;}", "layout a{1:x'by;}")
        self.check("layout a{1:x y;}", "layout a{1:x y;}")
        self.check("layout a{1:mod alt lock caps;}", "layout a{1:mod alt lock caps;}")
        self.check("layout a{1:' ' ;}", "layout a{1:' ' ;}")
        self.check("layout a{1:''''mod shift;}", "layout a{1:''''mod shift;}")

    def test_order_of_rows(self):
        self.check("layout a{10:x;9:y;255:z;1:w;}", "layout a{1:w;9:y;10:x;255:z;}")

    def test_order_of_layouts(self):
        self.check("layout b{2:x;1:y;} layout a{}", "layout b{1:y;2:x;}layout a{}")

    def test_empty(self):
        self.check("", "")
        self.check("layout a { }", "layout a{}")


class Problems(unittest.TestCase):
    def check(self, text, place, words):
        with self.subTest(text=text):
            self.assertEqual(problem_of(text), (place, words))

    def test_expected_a_word(self):
        self.check("*", 0, "expected a word")
        self.check("layout a{1:'a;} -", 16, "expected a word")
        self.check("layout a{1:'", 11, "expected a word")
        self.check("layout a{1:'\n;}", 11, "expected a word")
        self.check("layout \u00e9{}", 7, "expected a word")

    def test_a_character_that_belongs_to_nothing_comes_first(self):
        self.check("wrong } { ; 0 .", 14, "expected a word")
        self.check("layout a{1:mod x;} '", 19, "expected a word")
        self.check("x ' * ,", 4, "expected a word")

    def test_expected_layout(self):
        self.check("a", 0, "expected layout")
        self.check(" }", 1, "expected layout")
        self.check(ROW + "'a", 15, "expected layout")
        self.check(ROW + " ;", 16, "expected layout")
        self.check(ROW + "}", 15, "expected layout")

    def test_expected_a_name(self):
        self.check("layout", 6, "expected a name")
        self.check("layout  ", 8, "expected a name")
        self.check("layout {}", 7, "expected a name")
        self.check("layout 9a{}", 7, "expected a name")
        self.check("layout 'a{}", 7, "expected a name")
        self.check("layout abcdefghijklmnopqrstu{}", 7, "expected a name")

    def test_name_is_used_already(self):
        self.check("layout a{}layout a{}", 17, "name is used already")
        self.check("layout a{}layout b{}layout a", 27, "name is used already")
        self.assertIsNone(problem_of("layout a{}layout A{}"))

    def test_expected_brace(self):
        self.check("layout a", 8, "expected {")
        self.check("layout a 1", 9, "expected {")
        self.check("layout a}", 8, "expected {")

    def test_expected_a_number(self):
        for word in ("0", "256", "01", "001", "1000", "1a", "a", "99999999999999999999", "00", ":", ";", "{", "'1"):
            self.check("layout a{" + word + ":x;}", 9, "expected a number")
        self.check("layout a{", 9, "expected a number")
        self.check("layout a{1:x; ", 14, "expected a number")
        self.check("layout a{1:x;;}", 13, "expected a number")
        self.check("layout a{_1:x;}", 9, "expected a number")

    def test_expected_colon(self):
        self.check("layout a{1", 10, "expected :")
        self.check("layout a{1;}", 10, "expected :")
        self.check("layout a{1 'a", 11, "expected :")

    def test_expected_a_symbol(self):
        for word in (";", "}", "{", ":", "9", "1a", "abcdefghijklmnopqrstu"):
            self.check("layout a{1:" + word, 11, "expected a symbol")
            if word != ";":
                self.check("layout a{1:x " + word, 13, "expected a symbol")
                self.check("layout a{1:'1'2'3'4" + word, 19, "expected a symbol")
        self.check("layout a{1:", 11, "expected a symbol")
        self.check("layout a{1:x ", 13, "expected a symbol")
        self.check("layout a{1:x", 12, "expected a symbol")

    def test_expected_a_modifier(self):
        for word in ("caps", "'a", ";", "", "Shift", "1", "mod", "}", "shiftt"):
            self.check("layout a{1:mod " + word, 15, "expected a modifier")

    def test_expected_a_lock(self):
        for word in ("shift", "'a", ";", "", "Caps", "1", "lock", "}"):
            self.check("layout a{1:lock " + word, 16, "expected a lock")

    def test_too_many_symbols(self):
        self.check("layout a{1:'1'2'3'4'5;}", 19, "too many symbols")
        self.check("layout a{1:a b c d  e", 20, "too many symbols")
        self.check("layout a{1:'1'2'3'4mod x", 19, "too many symbols")
        self.check("layout a{1:mod alt mod alt mod alt mod alt lock caps;}", 43, "too many symbols")

    def test_code_is_used_already(self):
        self.check("layout a{1:x;1:y;}", 13, "code is used already")
        self.check("layout a{12:x;3:y; 12", 19, "code is used already")

    def test_too_many_layouts(self):
        self.check(layouts(5), len(layouts(4)), "too many layouts")
        self.check(layouts(4) + " layout n0", len(layouts(4)) + 1, "too many layouts")
        self.check(layouts(4) + "a", len(layouts(4)), "expected layout")

    def test_the_first_problem(self):
        self.check("layout a{0:mod x;}", 9, "expected a number")
        self.check("layout a{1:mod x;1:}", 15, "expected a modifier")


class Symbols(unittest.TestCase):
    def setUp(self):
        self.keymap = read_keymap("layout a{1:'a;2:'a'b;3:'a'b'c;4:'a'b'c'd;9:mod shift lock caps;}layout b{1:X;}")

    def gives(self, code, *modifiers, layout=0):
        return symbol_of(self.keymap, layout, code, list(modifiers))

    def test_levels(self):
        for code, expected in [(1, "aaaa"), (2, "abbb"), (3, "abcc"), (4, "abcd")]:
            found = [self.gives(code), self.gives(code, "shift"), self.gives(code, "level"),
                     self.gives(code, "level", "shift")]
            self.assertEqual(found, [("character", word) for word in expected])

    def test_other_modifiers(self):
        self.assertEqual(self.gives(4, "control", "alt", "super"), ("character", "a"))
        self.assertEqual(self.gives(4, "alt", "shift", "shift"), ("character", "b"))

    def test_kinds(self):
        self.assertEqual(self.gives(9), ("mod", "shift"))
        self.assertEqual(self.gives(9, "shift"), ("lock", "caps"))
        self.assertEqual(self.gives(1, layout=1), ("name", "X"))

    def test_none(self):
        self.assertIsNone(self.gives(5))
        self.assertIsNone(self.gives(2, layout=1))
        self.assertIsNone(self.gives(1, layout=2))
        self.assertIsNone(symbol_of(read_keymap(""), 0, 1, []))


if __name__ == "__main__":
    unittest.main()
