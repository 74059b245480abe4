"""Points 76, 78, 80 and 83 to 86: what is given, sent and asked for by all programs, and what comes to whom."""

import copy
import unittest

from sillwatch.giving.exchange import Asked, Exchange, coming, is_present, newest, shared_octets
from sillwatch.policies.reading import read_policy

ALL = read_policy("allow paste, drop, capture, share, name from any to any;")
NONE = read_policy("")
GOODS, OTHER_GOODS = [("b", [1, 2]), ("a", [])], [("c", [3])]


class Coming(unittest.TestCase):
    def test_order_and_copies(self):
        goods = [("b", [1]), ("", [2]), ("a", [3]), ("B", [4]), ("aa", [])]
        before = copy.deepcopy(goods)
        found = coming(ALL, "paste", goods, "A", "B")
        self.assertEqual(found, [("", [2]), ("B", [4]), ("a", [3]), ("aa", []), ("b", [1])])
        found[0][1].append(9)
        self.assertEqual(goods, before)

    def test_kinds_of_flow(self):
        policy = read_policy("allow paste from any to any;")
        self.assertEqual(coming(policy, "paste", GOODS, "A", "B"), [("a", []), ("b", [1, 2])])
        self.assertEqual(coming(policy, "drop", GOODS, "A", "B"), [])
        self.assertEqual(coming(NONE, "paste", GOODS, "A", "B"), [])

    def test_labels(self):
        policy = read_policy('program a = "A"; program b = "B"; allow drop from a to b;')
        self.assertEqual(coming(policy, "drop", OTHER_GOODS, "A", "B"), OTHER_GOODS)
        for giver, taker in [("B", "A"), ("A", "A"), ("B", "B"), ("A", "C")]:
            self.assertEqual(coming(policy, "drop", OTHER_GOODS, giver, taker), [])

    def test_contents(self):
        policy = read_policy('allow paste of "a", "c" from any to any; deny paste of "c" from any to any;')
        self.assertEqual(coming(policy, "paste", GOODS + OTHER_GOODS, "A", "B"), [("a", [])])

    def test_lengths_of_contents(self):
        goods = [("x" * length, [length]) for length in (0, 1, 100, 101, 128)]
        named = read_policy(f'allow paste of "x", "{"x" * 100}" from any to any;')
        self.assertEqual(coming(named, "paste", goods, "A", "B"), [("x", [1]), ("x" * 100, [100])])
        denied = read_policy(f'allow paste from any to any; deny paste of "x", "{"x" * 100}" from any to any;')
        self.assertEqual(coming(denied, "paste", goods, "A", "B"), [("", [0]), ("x" * 101, [101]), ("x" * 128, [128])])
        self.assertEqual(len(coming(ALL, "paste", goods, "A", "B")), 5)

    def test_nothing(self):
        self.assertEqual(coming(ALL, "paste", [], "A", "B"), [])


class Newest(unittest.TestCase):
    LABELS = ["A", "B", "C", ""]

    def test_the_newest_of_which_any_piece_comes(self):
        given = [(1, GOODS), (2, OTHER_GOODS)]
        self.assertEqual(newest(ALL, "paste", given, self.LABELS, 0), [("a", []), ("b", [1, 2])])
        self.assertEqual(newest(ALL, "paste", given[::-1], self.LABELS, 0), OTHER_GOODS)
        policy = read_policy('allow paste of "c", "b" from any to any;')
        self.assertEqual(newest(policy, "paste", given, self.LABELS, 0), [("b", [1, 2])])
        policy = read_policy('allow paste of "c" from any to any;')
        self.assertEqual(newest(policy, "paste", given, self.LABELS, 0), OTHER_GOODS)

    def test_goods_without_pieces(self):
        self.assertEqual(newest(ALL, "paste", [(1, []), (2, OTHER_GOODS)], self.LABELS, 0), OTHER_GOODS)

    def test_nothing(self):
        self.assertEqual(newest(NONE, "paste", [(1, GOODS)], self.LABELS, 0), [])
        self.assertEqual(newest(ALL, "paste", [], self.LABELS, 0), [])
        self.assertEqual(newest(read_policy("allow drop from any to any;"), "paste", [(1, GOODS)], self.LABELS, 0), [])

    def test_labels(self):
        policy = read_policy('program a = "A"; program b = "B"; allow drop from b to a;')
        self.assertEqual(newest(policy, "drop", [(2, OTHER_GOODS), (1, GOODS)], self.LABELS, 0)[0], ("a", []))
        self.assertEqual(newest(policy, "drop", [(1, GOODS)], self.LABELS, 2), [])

    def test_its_own_goods(self):
        self.assertEqual(newest(ALL, "paste", [(0, OTHER_GOODS)], self.LABELS, 0), OTHER_GOODS)
        policy = read_policy('program a = "A"; allow paste from a to any but a;')
        self.assertEqual(newest(policy, "paste", [(0, OTHER_GOODS)], self.LABELS, 0), [])
        # Another slot with the same label.
        self.assertEqual(newest(policy, "paste", [(0, OTHER_GOODS)], ["A", "A", "", ""], 1), [])


class Shared(unittest.TestCase):
    LABELS = ["A", "B", "C", "B"]

    def check(self, sent, slot, expected, policy=ALL, name="n", labels=None):
        found = shared_octets(policy, sent, self.LABELS if labels is None else labels, slot, name)
        self.assertEqual(found, expected)

    def test_the_first_slot(self):
        sent = [(2, "n", [2]), (1, "n", [1]), (3, "n", [3])]
        self.check(sent, 0, [1])
        self.check(sent, 1, [2])
        self.check(sent, 2, [1])

    def test_not_its_own(self):
        self.check([(0, "n", [0])], 0, None)
        self.check([(0, "n", [0]), (1, "n", [1])], 0, [1])
        self.check([(0, "n", [0])], 1, [0])

    def test_names(self):
        sent = [(1, "m", [1]), (1, "n", []), (2, "m", [2])]
        self.check(sent, 0, [])
        self.check(sent, 0, [1], name="m")
        self.check(sent, 0, None, name="o")

    def test_the_policy(self):
        policy = read_policy('program b = "B"; allow share from any but b to any;')
        self.check([(1, "n", [1]), (2, "n", [2])], 0, [2], policy)
        self.check([(1, "n", [1])], 0, None, policy)
        self.check([(1, "n", [1])], 0, None, read_policy("allow paste, drop, capture, name from any to any;"))

    def test_equal_labels(self):
        policy = read_policy('program b = "B"; allow share from b to b;')
        self.check([(1, "n", [1]), (3, "n", [3])], 1, [3], policy)
        self.check([(1, "n", [1]), (3, "n", [3])], 3, [1], policy)
        self.check([(1, "n", [1]), (3, "n", [3])], 0, None, policy)

    def test_copies(self):
        sent = [(1, "n", [1])]
        shared_octets(ALL, sent, self.LABELS, 0, "n").append(2)
        self.assertEqual(sent, [(1, "n", [1])])


class Present(unittest.TestCase):
    def check(self, labels, taken, slot, label, expected, policy=ALL):
        self.assertIs(is_present(policy, labels, taken, slot, label), expected)

    def test_labels(self):
        labels, taken = ["A", "B", "", "C"], [True, True, False, False]
        self.check(labels, taken, 0, "B", True)
        self.check(labels, taken, 1, "A", True)
        self.check(labels, taken, 0, "A", False)
        self.check(labels, taken, 0, "C", False)
        self.check(labels, taken, 0, "", False)
        self.check(labels, taken, 0, "b", False)

    def test_equal_labels(self):
        self.check(["A", "A", "", ""], [True, True, False, False], 0, "A", True)
        self.check(["A", "A", "", ""], [True, False, False, False], 0, "A", False)

    def test_the_policy(self):
        labels, taken = ["A", "B", "C", ""], [True, True, True, False]
        policy = read_policy('program b = "B"; allow name from b to any;')
        self.check(labels, taken, 0, "B", True, policy)
        self.check(labels, taken, 0, "C", False, policy)
        self.check(labels, taken, 1, "A", False, policy)
        self.check(labels, taken, 0, "B", False, read_policy("allow paste, drop, capture, share from any to any;"))


class ExchangeTest(unittest.TestCase):
    def setUp(self):
        self.exchange = Exchange()

    def asked(self):
        return [tuple(vars(asked).values()) for asked in self.exchange.asked]


class Beginning(ExchangeTest):
    def test_nothing(self):
        exchange = self.exchange
        self.assertEqual((exchange.gifts, exchange.primary, exchange.drags, exchange.sent), ([], [], [], []))
        self.assertEqual((exchange.asked, exchange.count, exchange.hovered), ([], 0, None))

    def test_asked(self):
        asked = Asked(1, 2, 3, 4, 5, 6, 7, 8)
        self.assertEqual((asked.number, asked.slot, asked.capture, asked.output), (1, 2, 3, 4))
        self.assertEqual((asked.x, asked.y, asked.width, asked.height), (5, 6, 7, 8))


class Gifts(ExchangeTest):
    def test_the_newest_first(self):
        self.exchange.give(0, GOODS, False)
        self.exchange.give(2, OTHER_GOODS, False)
        self.assertEqual(self.exchange.gifts, [(2, OTHER_GOODS), (0, GOODS)])
        self.assertEqual(self.exchange.primary, [])

    def test_what_is_replaced(self):
        for slot, goods in [(0, GOODS), (1, GOODS), (0, OTHER_GOODS)]:
            self.exchange.give(slot, goods, True)
        self.assertEqual(self.exchange.primary, [(0, OTHER_GOODS), (1, GOODS)])
        self.assertEqual(self.exchange.gifts, [])
        self.exchange.give(0, [], False)
        self.assertEqual((self.exchange.gifts, len(self.exchange.primary)), ([(0, [])], 2))

    def test_what_stays_and_what_goes(self):
        for primary in (False, True):
            self.exchange.give(0, GOODS, primary)
            self.exchange.give(1, GOODS, primary)
        self.exchange.ended(0)
        self.assertEqual((len(self.exchange.gifts), len(self.exchange.primary)), (2, 2))
        self.exchange.relabelled(0)
        self.assertEqual((self.exchange.gifts, self.exchange.primary), ([(1, GOODS)], [(1, GOODS)]))

    def test_goods_stay_as_they_were(self):
        goods = [("a", [1])]
        self.exchange.give(0, goods, False)
        self.exchange.drag(0, goods)
        goods[0][1].append(2)
        self.assertEqual((self.exchange.gifts, self.exchange.drags), ([(0, [("a", [1])])], [(0, [("a", [1])])]))


class Drags(ExchangeTest):
    def test_the_newest_first(self):
        self.exchange.drag(0, GOODS)
        self.exchange.drag(2, OTHER_GOODS)
        self.assertEqual(self.exchange.drags, [(2, OTHER_GOODS), (0, GOODS)])
        self.assertEqual((self.exchange.gifts, self.exchange.primary), ([], []))

    def test_the_end_of_a_program(self):
        self.exchange.drag(0, GOODS)
        self.exchange.drag(2, OTHER_GOODS)
        self.exchange.ended(2)
        self.assertEqual(self.exchange.drags, [(0, GOODS)])

    def test_hovered(self):
        self.exchange.hover((1, 30))
        self.assertEqual(self.exchange.hovered, (1, 30))
        self.exchange.ended(0)
        self.assertEqual(self.exchange.hovered, (1, 30))
        self.exchange.ended(1)
        self.assertIsNone(self.exchange.hovered)
        self.exchange.hover((1, 30))
        self.exchange.hover(None)
        self.assertIsNone(self.exchange.hovered)


class Sent(ExchangeTest):
    def test_sent(self):
        self.exchange.send(1, "b", [1])
        self.exchange.send(0, "b", [2])
        self.exchange.send(1, "a", [])
        self.assertEqual(self.exchange.sent, [(1, "b", [1]), (0, "b", [2]), (1, "a", [])])

    def test_sent_anew(self):
        self.exchange.send(1, "b", [1])
        self.exchange.send(0, "b", [2])
        self.exchange.send(1, "b", [3])
        self.assertEqual(self.exchange.sent, [(0, "b", [2]), (1, "b", [3])])

    def test_unsent(self):
        for slot, name in [(0, "a"), (1, "a"), (0, "b")]:
            self.exchange.send(slot, name, [])
        self.exchange.unsend(0, "a")
        self.exchange.unsend(2, "a")
        self.exchange.unsend(1, "c")
        self.assertEqual(self.exchange.sent, [(1, "a", []), (0, "b", [])])

    def test_the_end_of_a_program(self):
        for slot, name in [(0, "a"), (1, "a"), (0, "b")]:
            self.exchange.send(slot, name, [])
        self.exchange.ended(0)
        self.assertEqual(self.exchange.sent, [(1, "a", [])])

    def test_another_label(self):
        self.exchange.send(0, "a", [])
        self.exchange.relabelled(0)
        self.assertEqual(self.exchange.sent, [(0, "a", [])])


class Asking(ExchangeTest):
    def setUp(self):
        super().setUp()
        self.exchange.ask(0, 40, 3, -1, 2, 5, 6)
        self.exchange.ask(1, 40, None, 0, 0, 1, 1)
        self.exchange.ask(0, 41, 0, 0, 0, 1, 1)

    def test_asked(self):
        self.assertEqual(self.asked(), [
            (1, 0, 40, 3, -1, 2, 5, 6), (2, 1, 40, None, 0, 0, 1, 1), (3, 0, 41, 0, 0, 0, 1, 1),
        ])
        self.assertEqual(self.exchange.count, 3)

    def test_withdrawn(self):
        self.exchange.withdraw(0, 40)
        self.exchange.withdraw(1, 41)
        self.assertEqual([row[0] for row in self.asked()], [2, 3])
        # Each number is given once.
        self.exchange.ask(2, 7, 0, 0, 0, 1, 1)
        self.assertEqual(([row[0] for row in self.asked()], self.exchange.count), ([2, 3, 4], 4))

    def test_the_end_of_a_program(self):
        self.exchange.ended(0)
        self.assertEqual([row[0] for row in self.asked()], [2])
        self.assertEqual(self.exchange.count, 3)


if __name__ == "__main__":
    unittest.main()
