"""Points 91 to 94: which flows are let, ways, and which rules make a difference."""

import itertools
import random
import unittest

from sillwatch.policies.clauses import clauses
from sillwatch.policies.flows import can_give, lets, way
from sillwatch.policies.reading import read_policy

KINDS = ["paste", "drop", "capture", "share", "name"]
THREE = 'program a = "A"; program b = "B"; program c = "C"; group g = {a, b};'


class Lets(unittest.TestCase):
    def check(self, text, *rows):
        policy = read_policy(text)
        for kind, content, giver, taker, expected in rows:
            with self.subTest(text=text, flow=(kind, content, giver, taker)):
                self.assertIs(lets(policy, kind, content, giver, taker), expected)

    def flows(self, text):
        """Return the pairs of labels between which pastes are let."""
        policy = read_policy(THREE + text)
        labels = "ABCD"
        return "".join([a + b + " " for a in labels for b in labels if lets(policy, "paste", "x", a, b)]).strip()

    def test_no_rule(self):
        for text in ["", THREE, "deny paste from any to any;"]:
            self.assertEqual(self.flows("") if text == THREE else "", "")
            self.check(text, *[(kind, "x", "A", "A", False) for kind in KINDS])

    def test_kinds(self):
        for kind in KINDS:
            rows = [(other, "x", "A", "B", other == kind) for other in KINDS]
            self.check(f"allow {kind} from any to any;", *rows)
        self.check("allow paste, name from any to any;", *[
            (kind, "x", "A", "B", kind in ("paste", "name")) for kind in KINDS
        ])

    def test_whos(self):
        self.assertEqual(self.flows("allow paste from a to b;"), "AB")
        self.assertEqual(self.flows("allow paste from g to c;"), "AC BC")
        self.assertEqual(self.flows("allow paste from {g, c} to {b};"), "AB BB CB")
        self.assertEqual(self.flows("allow paste from any to a;"), "AA BA CA DA")
        self.assertEqual(self.flows("allow paste from any but g to a;"), "CA DA")
        self.assertEqual(self.flows("allow paste from a to any but b;"), "AA AC AD")
        self.assertEqual(self.flows("allow paste from a to any but {g, c};"), "AD")

    def test_a_name_is_no_label(self):
        policy = read_policy(THREE + "allow paste from a to any;")
        self.assertIs(lets(policy, "paste", "x", "a", "B"), False)

    def test_contents(self):
        text = 'allow paste, drop of "x", "y" from any to any;'
        self.check(text, ("paste", "x", "A", "B", True), ("drop", "y", "A", "B", True), ("paste", "z", "A", "B", False),
                   ("capture", "x", "A", "B", False))
        self.check("allow paste from any to any;", ("paste", "anything", "A", "B", True))

    def test_denying(self):
        text = 'deny paste of "x" from a to any; allow paste from any to any; deny paste from any to c;'
        self.check(THREE + text, ("paste", "x", "A", "B", False), ("paste", "y", "A", "B", True),
                   ("paste", "x", "B", "A", True), ("paste", "y", "A", "C", False), ("drop", "y", "A", "B", False))

    def test_order_does_not_matter(self):
        rules = ["allow paste from g to any;", "deny paste from a to b;", "allow paste from a to b;"]
        found = {self.flows("".join(order)) for order in itertools.permutations(rules)}
        self.assertEqual(found, {"AA AC AD BA BB BC BD"})


class CanGive(unittest.TestCase):
    def check(self, text, giver, taker, expected):
        self.assertIs(can_give(read_policy(THREE + text), giver, taker), expected)

    def test_each_kind(self):
        for kind in KINDS:
            self.check(f"allow {kind} from a to b;", "A", "B", True)
            self.check(f"allow {kind} from a to b;", "B", "A", False)
        self.check("", "A", "B", False)

    def test_contents(self):
        self.check('allow drop of "k" from a to b;', "A", "B", True)
        self.check('allow drop of "k" from a to b; deny drop from any to b;', "A", "B", False)
        self.check('allow drop of "k", "l" from a to b; deny drop of "k" from any to b;', "A", "B", True)
        self.check('allow drop of "k" from a to b; deny drop of "k" from any to b;', "A", "B", False)

    def test_contents_that_no_rule_names(self):
        self.check('allow drop from a to b; deny drop of "x", "xx" from a to b;', "A", "B", True)
        self.check('allow drop from a to b; deny drop from a to b; allow paste of "x" from a to c;', "A", "B", False)

    def test_equal_labels(self):
        self.check("", "A", "A", False)
        self.check("allow paste from any to a;", "A", "A", True)

    def test_labels_that_no_item_declares(self):
        self.check("allow name from any but {g, c} to any;", "D", "E", True)
        self.check("allow name from any but {g, c} to any;", "A", "E", False)


class Ways(unittest.TestCase):
    def way(self, text, labels, giver, taker):
        before = list(labels)
        found = way(read_policy(THREE + 'program d = "D";' + text), labels, giver, taker)
        self.assertEqual(labels, before)
        return found

    def test_none(self):
        self.assertIsNone(self.way("", ["A", "B"], "A", "B"))
        self.assertIsNone(self.way("allow share from b to a;", ["A", "B"], "A", "B"))
        self.assertIsNone(self.way("allow share from any to any;", [], "A", "B"))
        self.assertIsNone(self.way("allow share from any to any;", ["A", "C"], "A", "B"))

    def test_to_itself(self):
        self.assertEqual(self.way("", [], "A", "A"), ["A"])
        self.assertEqual(self.way("allow share from any to any;", ["A", "B"], "A", "A"), ["A"])

    def test_lengths(self):
        text = "allow share from a to b; allow name from b to c; allow drop from c to d;"
        labels = ["A", "B", "C", "D"]
        self.assertEqual(self.way(text, labels, "A", "B"), ["A", "B"])
        self.assertEqual(self.way(text, labels, "A", "C"), ["A", "B", "C"])
        self.assertEqual(self.way(text, labels, "A", "D"), ["A", "B", "C", "D"])
        self.assertIsNone(self.way(text, ["A", "B", "D"], "A", "D"))
        self.assertIsNone(self.way(text, labels, "D", "A"))

    def test_the_giver_need_not_be_given(self):
        text = "allow share from a to b; allow name from b to c;"
        self.assertEqual(self.way(text, ["C", "B"], "A", "C"), ["A", "B", "C"])
        self.assertIsNone(self.way(text, ["A", "B"], "A", "C"))

    def test_labels_given_twice(self):
        text = "allow share from a to b; allow name from b to c;"
        self.assertEqual(self.way(text, ["C", "B", "B", "A", "C"], "A", "C"), ["A", "B", "C"])

    def test_a_shortest_one(self):
        text = "allow share from any to any; deny share from a to d;"
        self.assertEqual(self.way(text, ["B", "C", "D"], "A", "D"), ["A", "B", "D"])
        self.assertEqual(self.way(text, ["C", "B", "D"], "A", "D"), ["A", "C", "D"])
        self.assertEqual(self.way(text, ["D", "C", "B"], "A", "D"), ["A", "C", "D"])
        self.assertEqual(self.way("allow share from any to any;", ["B", "C", "D"], "A", "D"), ["A", "D"])

    def test_labels_of_a_level_in_the_order_in_which_they_were_found(self):
        # From e the labels q and p are found in this order, as the labels are given; both lead to z by r.
        text = "".join([f'program {name} = "{name}";' for name in "epqrsz"])
        text += "allow share from e to {p, q};allow share from p to r;allow share from q to s;"
        text += "allow share from {r, s} to z;"
        labels = list("rsqpz")
        self.assertEqual(way(read_policy(text), labels, "e", "z"), list("eqsz"))
        self.assertEqual(way(read_policy(text), list("srpqz"), "e", "z"), list("eprz"))

    def test_against_all_lists(self):
        source = random.Random(5)
        for _ in range(60):
            pairs = [(a, b) for a in "ABCDE" for b in "ABCDE" if source.random() < 0.25]
            text = 'program a = "A";program b = "B";program c = "C";program d = "D";program e = "E";'
            text += "".join([f"allow name from {a.lower()} to {b.lower()};" for a, b in pairs])
            labels = [source.choice("ABCDE") for _ in range(5)]
            found = way(read_policy(text), labels, "A", "E")
            lists = [["A", *rest] for count in range(5) for rest in itertools.product(labels, repeat=count)]
            good = [row for row in lists if row[-1] == "E" and all([pair in pairs for pair in zip(row, row[1:])])]
            self.assertEqual(found is None, good == [])
            if good:
                self.assertIn(found, good)
                self.assertEqual(len(found), min([len(row) for row in good]))


class Clauses(unittest.TestCase):
    def check(self, text, expected):
        with self.subTest(text=text):
            self.assertEqual(clauses(read_policy(text)), expected)

    def test_no_rules(self):
        self.check("", [])
        self.check(THREE, [])

    def test_the_example(self):
        text = 'program a = "a"; allow share from a to any; deny drop from any to any;'
        self.check(text, [("share", "x", "a", "a"), None])

    def test_allowing(self):
        self.check("allow name from any to any;", [("name", "x", "x", "x")])
        self.check("allow name, drop from any to any;", [("drop", "x", "x", "x")])
        self.check("allow name from any to any;allow name from any to any;", [None, None])
        self.check(THREE + "allow name from any to any;allow name from b to any;", [("name", "x", "A", "A"), None])
        self.check(THREE + "allow name from b to any;", [("name", "x", "B", "A")])
        self.check(THREE + "allow name from any but g to any but {a, c};", [("name", "x", "C", "B")])

    def test_denying(self):
        self.check("deny name from any to any;", [None])
        self.check("allow name from any to any;deny name from any to any;", [None, ("name", "x", "x", "x")])
        self.check("allow name from any to any;deny name, paste from any to any;deny name from any to any;",
                   [None, None, None])
        text = THREE + "allow name from any to any;deny name from b to c;"
        self.check(text, [("name", "x", "A", "A"), ("name", "x", "B", "C")])

    def test_contents(self):
        self.check('allow paste of "q", "p" from any to any;', [("paste", "q", "x", "x")])
        self.check('allow paste from any to any;deny paste of "q" from any to any;',
                   [("paste", "x", "x", "x"), ("paste", "q", "x", "x")])
        self.check('allow paste from any to any;allow paste of "q" from any to any;', [("paste", "x", "x", "x"), None])
        # A rule without contents speaks of all of them, also of those that only other kinds go with.
        self.check('allow share from any to any;allow drop of "q" from any to any;',
                   [("share", "q", "x", "x"), ("drop", "q", "x", "x")])

    def test_contents_in_the_order_of_their_first_places(self):
        text = 'deny paste of "r", "q" from any to any;allow paste of "p", "q" from any to any;'
        self.check(text, [("paste", "q", "x", "x"), ("paste", "p", "x", "x")])

    def test_a_content_that_is_x(self):
        self.check('allow drop from any to any;deny drop of "x" from any to any;',
                   [("drop", "xx", "x", "x"), ("drop", "x", "x", "x")])
        self.check('allow drop from any to any;deny drop of "xx", "x" from any to any;',
                   [("drop", "xxx", "x", "x"), ("drop", "xx", "x", "x")])
        self.check('allow drop from any to any;deny drop of "xx" from any to any;',
                   [("drop", "x", "x", "x"), ("drop", "xx", "x", "x")])

    def test_a_label_that_is_x(self):
        self.check('program a = "x";allow name from any but a to any but a;', [("name", "x", "xx", "xx")])
        self.check('program a = "xx";program b = "x";allow name from any to any but {a, b};',
                   [("name", "x", "xx", "xxx")])
        self.check('program a = "xx";allow name from a to any but a;', [("name", "x", "xx", "x")])

    def test_by_kind_then_content_then_giver_then_taker(self):
        text = THREE + 'allow drop, paste of "k" from c to b;allow drop from a to a;'
        self.check(text, [("paste", "k", "C", "B"), ("drop", "k", "A", "A")])

    def test_against_the_words_of_the_document(self):
        source = random.Random(9)
        for _ in range(25):
            text = 'program a = "A";program b = "x";group g = {a, b};'
            rules = []
            for _ in range(source.randrange(1, 6)):
                kinds = source.sample(["paste", "drop"], source.randrange(1, 3))
                rule = source.choice(["allow ", "allow ", "deny "]) + ", ".join(kinds)
                if source.random() < 0.5:
                    rule += " of " + ", ".join(source.sample(['"x"', '"y"', '"xx"'], source.randrange(1, 3)))
                whos = ["any", "a", "b", "g", "any but a", "any but g", "{a, b}"]
                rules.append(rule + f" from {source.choice(whos)} to {source.choice(whos)};")
            self.assertEqual(clauses(read_policy(text + "".join(rules))), self.expected(text, rules))

    def expected(self, text, rules):
        contents = []
        for rule in rules:
            contents += [word for word in rule.split('"')[1::2] if word not in contents]
        contents.append([x for x in ("x", "xx", "xxx") if x not in contents][0])
        labels = ["A", "x", "xx"]
        flows = list(itertools.product(KINDS, contents, labels, labels))
        whole = read_policy(text + "".join(rules))
        found = []
        for at in range(len(rules)):
            less = read_policy(text + "".join(rules[:at] + rules[at + 1:]))
            found.append(next((flow for flow in flows if lets(whole, *flow) != lets(less, *flow)), None))
        return found

    def test_a_large_policy(self):
        text = "".join([f'program p{number} = "l{number}";' for number in range(12)])
        text += "".join([f"allow paste, drop, name from p{n % 12} to p{n // 4};" for n in range(48)])
        found = clauses(read_policy(text))
        self.assertEqual(len(found), 48)
        self.assertEqual(found[1], ("paste", "x", "l1", "l0"))


if __name__ == "__main__":
    unittest.main()
