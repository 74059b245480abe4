"""Points 87 to 90: the texts of policies, their faults, and their canonical texts."""

import unittest

from sillwatch.errors import BadPolicy
from sillwatch.policies.flows import lets
from sillwatch.policies.reading import Policy, policy_text, read_policy

KINDS = ["paste", "drop", "capture", "share", "name"]
KEYWORDS = ["program", "group", "allow", "deny", "of", "from", "to", "any", "but"] + KINDS
TWO = 'program a = "A";\nprogram b = "B";\n'


def fault_of(text):
    """Return the line, the column and the words of the fault of a text, or None. Both functions tell the same."""
    faults = []
    for function in (read_policy, policy_text):
        try:
            function(text)
            faults.append(None)
        except BadPolicy as fault:
            faults.append((fault.line, fault.column, fault.words))
    assert faults[0] == faults[1]
    return faults[0]


class PoliciesTest(unittest.TestCase):
    def refused(self, text, line, column, words):
        with self.subTest(text=text):
            self.assertEqual(fault_of(text), (line, column, words))

    def accepted(self, text):
        with self.subTest(text=text):
            self.assertIsNone(fault_of(text))


class CanonicalTexts(PoliciesTest):
    def check(self, text, expected):
        with self.subTest(text=text):
            self.assertEqual(policy_text(text), expected)
            self.assertEqual(policy_text(expected), expected)

    def test_the_example(self):
        self.check(
            'program notes="notes";allow paste of "text/plain" from notes to any but notes;',
            'program notes = "notes";\nallow paste of "text/plain" from notes to any but notes;\n',
        )

    def test_empty(self):
        for text in ["", " ", "\n\t ", "# allow", "# a\n# b\n"]:
            self.check(text, "")

    def test_programs_and_groups(self):
        self.check('program  a="x"; group g={a};', 'program a = "x";\ngroup g = {a};\n')
        self.check(TWO + "group g = { b , a } ;", TWO + "group g = {b, a};\n")

    def test_kinds(self):
        self.check("allow paste,drop ,capture, share , name from any to any;",
                   "allow paste, drop, capture, share, name from any to any;\n")
        self.check("deny name from any to any;", "deny name from any to any;\n")

    def test_contents(self):
        self.check('allow drop of"x","y"from any to any;', 'allow drop of "x", "y" from any to any;\n')

    def test_whos(self):
        for who, expected in [
            ("any", "any"), ("a", "a"), ("{a}", "{a}"), ("{ a,b }", "{a, b}"), ("any but a", "any but a"),
            ("any but{a}", "any but a"), ("any but {b,a}", "any but {b, a}"),
        ]:
            self.check(TWO + f"allow paste from {who} to {who};", TWO + f"allow paste from {expected} to {expected};\n")

    def test_quotes_and_backslashes(self):
        self.check(r'program a = "\"x\\";', 'program a = "\\"x\\\\";\n')
        self.check(r'allow paste of "\\\"" from any to any;', 'allow paste of "\\\\\\"" from any to any;\n')

    def test_comments_and_blanks(self):
        self.check('# one\nallow#two " ;\n\tpaste # three\n from any\tto\n\nany # four\n;# five',
                   "allow paste from any to any;\n")

    def test_signs_of_comments_in_texts(self):
        self.check('program a = "# ; {";', 'program a = "# ; {";\n')

    def test_words(self):
        self.check('program a1_ = "x";program anyone = "y";program o = "z";',
                   'program a1_ = "x";\nprogram anyone = "y";\nprogram o = "z";\n')


class Policies(unittest.TestCase):
    def test_class(self):
        self.assertIs(type(read_policy("")), Policy)

    def test_unescaped_labels(self):
        policy = read_policy(r'program a = "\"\\"; allow name from a to any;')
        self.assertIs(lets(policy, "name", "x", '"\\', "y"), True)
        self.assertIs(lets(policy, "name", "x", '\\"\\\\', "y"), False)


class TooLong(PoliciesTest):
    def test_length(self):
        self.accepted("#" + "x" * 7999)
        self.refused("#" + "x" * 8000, 1, 1, "too long")
        self.refused("*" * 8001, 1, 1, "too long")
        self.accepted("\n" * 8000)


class Tokens(PoliciesTest):
    def test_not_a_sign(self):
        for character in "AZ09_-+*/.:'\\|()[]<>&@!?^~%\r\f\v\u00e9":
            self.refused(character, 1, 1, "not a sign")
            self.refused("allow " + character, 1, 7, "not a sign")
        self.refused("allowX", 1, 6, "not a sign")
        self.refused("program Aa;", 1, 9, "not a sign")

    def test_places(self):
        self.refused("\n\n  *", 3, 3, "not a sign")
        self.refused("\t\t*", 1, 3, "not a sign")
        self.refused("# x\n\t*", 2, 2, "not a sign")
        self.refused("allow # * \"\n;\n *", 3, 2, "not a sign")

    def test_text_without_end(self):
        self.refused('"', 1, 1, "text without end")
        self.refused('program a = "x', 1, 13, "text without end")
        self.refused('program a = "x\n";', 1, 13, "text without end")
        self.refused('program a = "x\\";', 1, 13, "text without end")
        self.refused('program a = "x\\n";', 1, 13, "text without end")
        self.refused('program a = "x\\\n";', 1, 13, "text without end")
        self.refused('program a = "x\\', 1, 13, "text without end")
        self.refused(';\n "\\', 2, 2, "text without end")
        self.accepted('program a = "\\\\";')

    def test_from_left_to_right(self):
        self.refused('* "', 1, 1, "not a sign")
        self.refused('" *', 1, 1, "text without end")
        self.refused('"a" "b *', 1, 5, "text without end")

    def test_before_anything_else(self):
        self.refused('wrong; program = ; *', 1, 20, "not a sign")
        self.refused(TWO + TWO + '"', 5, 1, "text without end")

    def test_characters_of_texts(self):
        self.accepted('program a = "\t~ %{}";')


class Grammar(PoliciesTest):
    def test_expected_an_item(self):
        words = "expected program, group, allow or deny"
        for text in ["a", ";", '"x"', "paste", "any", "to", "{", "programs"]:
            self.refused(text, 1, 1, words)
        self.refused(TWO + "  ;", 3, 3, words)
        self.refused(TWO + '\t# x\n\t"x"', 4, 2, words)

    def test_expected_a_name(self):
        words = "expected a name"
        for keyword in KEYWORDS:
            self.refused(f"program {keyword}", 1, 9, words)
            self.refused(f"group {keyword}", 1, 7, words)
            if keyword != "any":
                self.refused(f"allow paste from {keyword}", 1, 18, words)
                self.refused(f"allow paste from any to {keyword}", 1, 25, words)
            self.refused(f"allow paste from any but {keyword}", 1, 26, words)
            self.refused(f"allow paste from {{{keyword}", 1, 19, words)
            self.refused(f"group g = {{a, {keyword}", 1, 15, words)
        self.refused("program", 1, 8, words)
        self.refused("program  # x\n ", 2, 2, words)
        self.refused("program = ", 1, 9, words)
        self.refused('group "g"', 1, 7, words)
        self.refused("group g = {}", 1, 12, words)
        self.refused("group g = {a,}", 1, 14, words)
        self.refused("allow paste from {}", 1, 19, words)
        self.refused("allow paste from any but any", 1, 26, words)
        self.refused("allow paste from ;", 1, 18, words)
        self.refused('allow paste from "a"', 1, 18, words)
        self.refused("allow paste from any to", 1, 24, words)
        self.refused("allow paste from {{a}}", 1, 19, words)
        self.refused("allow paste from any but to any;", 1, 26, words)

    def test_expected_a_text(self):
        words = "expected a text"
        self.refused("program a =", 1, 12, words)
        self.refused("program a = b;", 1, 13, words)
        self.refused("program a = ;", 1, 13, words)
        self.refused("allow paste of from", 1, 16, words)
        self.refused('allow paste of "x", from', 1, 21, words)
        self.refused('allow paste of "x",, "y"', 1, 20, words)

    def test_expected_a_kind(self):
        words = "expected a kind of flow"
        for text in ["", "from", "a", ";", '"paste"', "pastes", ","]:
            self.refused("allow " + text, 1, 7, words)
            self.refused("deny  paste, " + text, 1, 14, words)

    def test_expected_from(self):
        words = "expected from"
        for text in ["", "to", "a", ";", '"x"', "drop", "{"]:
            self.refused("allow paste " + text, 1, 13, words)
            self.refused('allow paste of "x" ' + text, 1, 20, words)
        self.refused('allow paste of "x" of "y"', 1, 20, words)
        self.refused('allow paste "from" any to any;', 1, 13, words)
        self.refused('allow paste "of" "x" from any to any;', 1, 13, words)

    def test_expected_to(self):
        words = "expected to"
        for text in ["", "from", "a", ";", '"x"', "{", ",", "any"]:
            for who in ["any", "a", "{a}", "any but a", "any but {a, b}"]:
                self.refused(f"allow paste from {who} {text}", 1, 19 + len(who), words)
        self.refused("allow paste from a but b to c;", 1, 20, words)

    def test_expected_open_brace(self):
        words = "expected {"
        for text in ["", "a", ";", '"x"', "}", "any"]:
            self.refused("group g = " + text, 1, 11, words)

    def test_expected_close_brace(self):
        words = "expected }"
        for text in ["", "a", ";", '"x"', "{", "any"]:
            self.refused("group g = {a " + text, 1, 14, words)
            self.refused("allow paste from {a, b " + text, 1, 24, words)

    def test_expected_equals(self):
        words = "expected ="
        for text in ["", "a", ";", '"x"', '"="', "{"]:
            self.refused("program a " + text, 1, 11, words)
            self.refused("group g " + text, 1, 9, words)

    def test_expected_semicolon(self):
        words = "expected ;"
        for text in ["", "a", '"x"', ",", "=", "program"]:
            self.refused('program a = "x" ' + text, 1, 17, words)
            self.refused("group g = {a} " + text, 1, 15, words)
            self.refused("allow paste from any to b " + text, 1, 27, words)
            self.refused("allow paste from any to any " + text, 1, 29, words)
        self.refused("allow paste from any to any but b but", 1, 35, words)

    def test_the_end_behind_blanks_and_comments(self):
        self.refused('program a = "x"  ', 1, 18, "expected ;")
        self.refused('program a = "x"\n\n', 3, 1, "expected ;")
        self.refused('program a = "x" # ;', 1, 20, "expected ;")
        self.refused('program a = "x"\n\t# ;\n \t', 3, 3, "expected ;")

    def test_before_counts_and_names(self):
        words = "expected program, group, allow or deny"
        self.refused("allow paste from nobody to any;" * 61 + "x", 1, 31 * 61 + 1, words)


class Counts(PoliciesTest):
    def programs(self, count):
        return "".join([f'program p{number} = "{number}";' for number in range(count)])

    def contents(self, count):
        return ", ".join([f'"c{number}"' for number in range(count)])

    def test_items(self):
        rule = "allow paste from any to any;\n"
        self.accepted(rule * 60)
        self.refused(rule * 61, 1, 1, "too many items")

    def test_programs(self):
        self.accepted(self.programs(12))
        self.refused(self.programs(13), 1, 1, "too many programs")
        self.refused("\n\n" + self.programs(13), 1, 1, "too many programs")

    def test_contents(self):
        rule = "allow paste of {} from any to any;"
        self.accepted(rule.format(self.contents(24)))
        self.refused(rule.format(self.contents(25)), 1, 1, "too many contents")
        self.accepted(rule.format(self.contents(12)) * 2)
        # Each place at which one stands counts.
        self.refused(rule.format(self.contents(12)) * 2 + rule.format('"c0"'), 1, 1, "too many contents")
        self.refused(rule.format(", ".join(['"c"'] * 25)), 1, 1, "too many contents")

    def test_which_is_first(self):
        rule = f"allow paste of {self.contents(25)} from any to any;"
        self.refused(self.programs(13) + rule, 1, 1, "too many programs")
        self.refused(self.programs(13) + rule + "deny drop from any to any;" * 47, 1, 1, "too many items")
        self.refused('program a = "";' + rule, 1, 1, "too many contents")


class ItemFaults(PoliciesTest):
    def test_names_of_programs(self):
        self.refused(TWO + 'program a = "C";', 3, 1, "name is used already: a")
        self.refused(TWO + 'group g = {a};program g = "C";', 3, 15, "name is used already: g")
        self.refused(TWO + 'program a = "A";', 3, 1, "name is used already: a")

    def test_labels(self):
        self.refused(TWO + ' program c = "A";', 3, 2, "label is used already")
        self.accepted(TWO + 'program c = "a";')
        self.refused('program a = "";', 1, 1, "bad label")
        self.accepted('program a = "x";')
        self.accepted(f'program a = "{"x" * 100}";')
        self.refused(f'program a = "{"x" * 101}";', 1, 1, "bad label")
        self.accepted('program a = "' + '\\"' * 100 + '";')
        self.refused('program a = "' + "\\\\" * 101 + '";', 1, 1, "bad label")
        self.refused('program a = "";program a = "";', 1, 1, "bad label")
        self.refused('program a = "x";group g = {a};program b = "";', 1, 31, "bad label")
        self.refused('allow paste from any to any;program b = "";', 1, 29, "bad label")

    def test_groups(self):
        self.refused(TWO + "group a = {b};", 3, 1, "name is used already: a")
        self.refused(TWO + "group g = {a};group g = {c};", 3, 15, "name is used already: g")
        self.refused(TWO + "group g = {a, c, d};", 3, 1, "not a program: c")
        self.refused(TWO + "group g = {a};group h = {b, g};", 3, 15, "not a program: g")
        self.refused(TWO + "group g = {g};", 3, 1, "not a program: g")
        self.refused('group g = {a};program a = "A";', 1, 1, "not a program: a")
        self.refused(TWO + "group g = {a, b, b, a};", 3, 1, "name stands twice: a")
        self.refused(TWO + "group g = {b, a, b};", 3, 1, "name stands twice: b")
        self.refused(TWO + "group g = {a, a, c};", 3, 1, "not a program: c")

    def test_kinds_and_contents(self):
        self.refused("allow paste, drop, paste from any to any;", 1, 1, "kind stands twice")
        self.refused('allow paste of "x", "y", "x" from any to any;', 1, 1, "content stands twice")
        self.refused('allow paste, paste of "x", "x" from any to any;', 1, 1, "kind stands twice")
        self.refused('allow paste of "" from any to any;', 1, 1, "bad content")
        self.refused('allow paste of "", "" from any to any;', 1, 1, "content stands twice")
        self.refused(f'deny paste of "x", "{"y" * 101}" from any to any;', 1, 1, "bad content")
        self.accepted(f'deny paste of "x", "{"y" * 100}" from any to any;')
        self.accepted('deny paste, drop of "x" from any to any;')

    def test_contents_with_other_kinds(self):
        words = "contents go with paste and drop alone"
        for kind in ["capture", "share", "name"]:
            self.refused(f'allow {kind} of "x" from any to any;', 1, 1, words)
            self.refused(f'allow paste, {kind} of "x" from any to any;', 1, 1, words)
            self.accepted(f"allow paste, {kind} from any to any;")
        self.refused('allow share of "" from any to any;', 1, 1, "bad content")
        self.refused('allow share of "x" from c to any;', 1, 1, words)

    def test_unknown_names(self):
        self.refused(TWO + "allow paste from c to d;", 3, 1, "unknown name: c")
        self.refused(TWO + "allow paste from a to {b, d, c};", 3, 1, "unknown name: d")
        self.refused(TWO + "allow paste from any but {a, e} to d;", 3, 1, "unknown name: e")
        self.refused("allow paste from a to any;" + TWO, 1, 1, "unknown name: a")
        self.refused(TWO + "allow paste from {a, a} to d;", 3, 1, "unknown name: d")

    def test_names_that_stand_twice(self):
        self.refused(TWO + "allow paste from {a, b, a} to {b, b};", 3, 1, "name stands twice: a")
        self.refused(TWO + "allow paste from {a, b} to any but {b, a, a, b};", 3, 1, "name stands twice: b")
        self.refused(TWO + "allow paste from any to {a, b, b};", 3, 1, "name stands twice: b")
        self.accepted(TWO + "group g = {a}; allow paste from {a, g} to {g, a};")

    def test_one_item_after_the_other(self):
        self.refused('program a = "";\nallow paste, paste from any to any;', 1, 1, "bad label")
        self.refused('allow paste, paste from any to any;\nprogram a = "";', 1, 1, "kind stands twice")
        self.refused('program a = "x";\n  program a = "y";\nprogram b = "";', 2, 3, "name is used already: a")

    def test_the_first_token_of_the_item(self):
        self.refused("\n  # x\n\t allow\npaste, paste from any to any;", 3, 3, "kind stands twice")


if __name__ == "__main__":
    unittest.main()
