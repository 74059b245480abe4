"""Points 76 to 85, as far as one program's own holdings go."""

import copy
import unittest

from sillwatch.giving.holdings import Holdings
from sillwatch.objects.owned import Objects
from sillwatch.objects.replies import Reply
from tests.helpers import ask, fault_of, rows_of

TRANSFER, OTHER_TRANSFER, SOURCE, CAPTURE, FETCH, WATCH, OUTPUT = 8, 9, 20, 40, 50, 60, 70
FIRST_OFFER = 4278190080
GRANT = 5


class HoldingsTest(unittest.TestCase):
    def setUp(self):
        self.holdings = Holdings()
        self.objects = Objects()
        self.wishes = []
        self.kinds = {TRANSFER: "transfer", OTHER_TRANSFER: "transfer"}
        self.kinds.update({FIRST_OFFER + at: "offer" for at in range(20)})

    def serve(self, number, interface, name, *arguments, grant=None, gripped=False, dragging=False):
        """Serve a request; return what is told, or the fault."""
        request = ask(number, interface, name, *arguments, ends=name == "destroy")
        before = copy.deepcopy(request.arguments)
        reply = Reply()
        fault = fault_of(self.holdings.serve, request, grant, gripped, dragging, reply)
        self.assertEqual(request.arguments, before)
        if fault is not None:
            self.assertEqual((reply.told, reply.wishes, reply.ended), ([], [], []))
            return fault
        self.assertEqual((reply.ended, reply.applied), ([], []))
        self.wishes = reply.wishes
        return rows_of(reply, self.kinds)

    def end(self, number, interface):
        self.assertEqual(self.serve(number, interface, "destroy"), [])
        self.holdings.ended(number)

    def source(self, number=SOURCE, *pieces):
        self.assertEqual(self.serve(TRANSFER, "transfer", "source", number), [])
        for kind, octets in pieces:
            self.assertEqual(self.serve(number, "source", "write", kind, octets), [])

    def write(self, number, kind, octets):
        return self.serve(number, "source", "write", kind, octets)

    def give(self, number=SOURCE, serial=GRANT, primary=0, **state):
        state.setdefault("grant", GRANT)
        self.assertEqual(self.serve(TRANSFER, "transfer", "give", number, serial, primary, **state), [])
        return self.wishes

    def drag(self, number=SOURCE, serial=GRANT, gripped=True, **state):
        state.setdefault("grant", GRANT)
        self.assertEqual(self.serve(TRANSFER, "transfer", "drag", number, serial, gripped=gripped, **state), [])
        return self.wishes

    def tell(self, method, *arguments):
        """Call a method that tells; return what it returns and what is told."""
        reply = Reply()
        plain = [argument for argument in arguments if not isinstance(argument, Objects)]
        before = copy.deepcopy(plain)
        found = method(*arguments, reply)
        self.assertEqual(plain, before)
        self.assertEqual((reply.wishes, reply.ended), ([], []))
        return found, rows_of(reply, self.kinds)

    def offered(self, *goods, way=0):
        return self.tell(self.holdings.offered, self.objects, way, list(goods))


class Sources(HoldingsTest):
    def test_pieces(self):
        self.source(SOURCE, ("b", [1, 2]), ("a", []), ("b", [3]), ("", [4]))
        self.assertEqual(self.give(), [("spend",), ("give", [("b", [1, 2, 3]), ("a", []), ("", [4])], False)])

    def test_how_many(self):
        for number in range(8):
            self.source(SOURCE + number)
        fault = self.serve(TRANSFER, "transfer", "source", 39)
        self.assertEqual(fault, (TRANSFER, 2, "too much"))
        self.end(SOURCE + 3, "source")
        self.source(39)
        self.assertEqual(self.serve(OTHER_TRANSFER, "transfer", "source", 38), (OTHER_TRANSFER, 2, "too much"))
        self.give(SOURCE)
        self.source(38)

    def test_kinds(self):
        self.source()
        self.assertEqual(self.write(SOURCE, "k" * 128, [1]), [])
        self.assertEqual(self.write(SOURCE, "k" * 129, [1]), (SOURCE, 3, "text too long"))

    def test_octets(self):
        self.source(SOURCE, ("a", [7] * 16384), ("a", [7] * 16383))
        self.source(SOURCE + 1)
        self.assertEqual(self.write(SOURCE + 1, "b", [1, 2]), (SOURCE + 1, 2, "too much"))
        self.assertEqual(self.write(SOURCE + 1, "b", [1]), [])
        self.assertEqual(self.write(SOURCE, "b", [1]), (SOURCE, 2, "too much"))
        self.assertEqual(self.write(SOURCE, "b", []), [])

    def test_how_many_kinds(self):
        self.source(SOURCE, *[(f"k{number}", []) for number in range(16)])
        self.assertEqual(self.write(SOURCE, "k16", []), (SOURCE, 2, "too much"))
        self.assertEqual(self.write(SOURCE, "k15", [1]), [])
        self.source(SOURCE + 1)
        self.assertEqual(self.write(SOURCE + 1, "k16", []), [])

    def test_two_faults(self):
        self.source(SOURCE, ("a", [7] * 16384), ("a", [7] * 16384))
        self.assertEqual(self.write(SOURCE, "k" * 129, [1]), (SOURCE, 3, "text too long"))

    def test_used_up(self):
        self.source(SOURCE, ("a", [7] * 16384), ("b", [7] * 16384))
        self.give()
        self.assertEqual(self.write(SOURCE, "c", [1]), [])
        self.assertEqual(self.write(SOURCE, "k" * 200, [1] * 16384), [])
        self.source(SOURCE + 1, ("a", [7] * 16384), ("b", [7] * 16384))
        self.assertEqual(self.write(SOURCE + 1, "b", [1]), (SOURCE + 1, 2, "too much"))

    def test_ended(self):
        self.source(SOURCE, ("a", [7] * 16384), ("b", [7] * 16384))
        self.end(SOURCE, "source")
        self.source(SOURCE, ("a", [7] * 16384), ("b", [7] * 16384))

    def test_pieces_stay_as_they_were(self):
        self.source()
        octets = [1, 2]
        self.write(SOURCE, "a", octets)
        octets.append(3)
        self.assertEqual(self.give()[1], ("give", [("a", [1, 2])], False))


class Giving(HoldingsTest):
    def test_the_two_selections(self):
        for primary, expected in [(0, False), (1, True), (7, True), (2 ** 32 - 1, True)]:
            self.setUp()
            self.source(SOURCE, ("a", [1]))
            wishes = self.give(primary=primary)
            self.assertEqual(wishes, [("spend",), ("give", [("a", [1])], expected)])
            self.assertIs(wishes[1][2], expected)

    def test_without_pieces(self):
        self.source()
        self.assertEqual(self.give(), [("spend",), ("give", [], False)])

    def test_without_the_grant(self):
        self.source(SOURCE, ("a", [1]))
        self.assertEqual(self.give(grant=None), [])
        self.assertEqual(self.give(serial=0, grant=None), [])
        self.assertEqual(self.give(serial=4), [])
        self.assertEqual(self.give(grant=6), [])
        self.assertEqual(len(self.give()), 2)

    def test_used_up(self):
        self.source(SOURCE, ("a", [1]))
        self.give()
        self.assertEqual(self.give(), [])
        self.assertEqual(self.drag(), [])

    def test_goods_stay_as_they_were(self):
        self.source(SOURCE, ("a", [1]))
        goods = self.give()[1][1]
        self.write(SOURCE, "a", [2])
        self.write(SOURCE, "b", [2])
        self.end(SOURCE, "source")
        self.assertEqual(goods, [("a", [1])])

    def test_drags(self):
        self.source(SOURCE, ("a", [1]))
        self.assertEqual(self.drag(gripped=False), [])
        self.assertEqual(self.drag(dragging=True), [])
        self.assertEqual(self.drag(serial=4), [])
        self.assertEqual(self.drag(grant=None), [])
        self.assertEqual(self.drag(), [("spend",), ("drag", [("a", [1])])])
        self.assertEqual(self.drag(), [])
        self.assertEqual(self.give(), [])

    def test_giving_needs_no_grip(self):
        self.source()
        self.assertEqual(len(self.give(gripped=False, dragging=True)), 2)


class Sending(HoldingsTest):
    def send(self, name, octets):
        return self.serve(TRANSFER, "transfer", "send", name, octets)

    def test_send_and_unsend(self):
        self.assertEqual(self.send("a", [1, 2]), [])
        self.assertEqual(self.wishes, [("send", "a", [1, 2])])
        self.assertEqual(self.serve(TRANSFER, "transfer", "unsend", "a"), [])
        self.assertEqual(self.wishes, [("unsend", "a")])

    def test_length_of_the_name(self):
        self.assertEqual(self.send("a" * 128, []), [])
        self.assertEqual(self.send("a" * 129, []), (TRANSFER, 3, "text too long"))
        self.assertEqual(self.serve(TRANSFER, "transfer", "unsend", "a" * 129), [])

    def test_how_many_octets(self):
        self.assertEqual(self.send("a", [1] * 8192), [])
        self.assertEqual(self.send("b", [1] * 8193), (TRANSFER, 2, "too much"))
        self.assertEqual(self.send("a", [1] * 8193), (TRANSFER, 2, "too much"))

    def test_how_many_names(self):
        for name in "abcd":
            self.assertEqual(self.send(name, [1]), [])
        self.assertEqual(self.send("e", [1]), (TRANSFER, 2, "too much"))
        self.assertEqual(self.send("d", [2]), [])
        self.serve(TRANSFER, "transfer", "unsend", "x")
        self.assertEqual(self.send("e", [1]), (TRANSFER, 2, "too much"))
        self.serve(TRANSFER, "transfer", "unsend", "b")
        self.assertEqual(self.send("e", [1]), [])
        self.assertEqual(self.send("b", [1]), (TRANSFER, 2, "too much"))

    def test_two_faults(self):
        for name in "abcd":
            self.send(name, [1])
        self.assertEqual(self.send("a" * 129, [1] * 9000), (TRANSFER, 3, "text too long"))

    def test_octets_stay_as_they_were(self):
        octets = [1, 2]
        self.send("a", octets)
        octets.append(3)
        self.assertEqual(self.wishes, [("send", "a", [1, 2])])

    def test_the_end_of_the_transfer_object(self):
        self.holdings.bound(TRANSFER)
        for name in "abcd":
            self.send(name, [1])
        self.end(TRANSFER, "transfer")
        self.assertEqual(self.serve(OTHER_TRANSFER, "transfer", "send", "e", []), (OTHER_TRANSFER, 2, "too much"))


class Panes(HoldingsTest):
    def test_panes(self):
        self.assertIsNone(self.holdings.pane())
        self.holdings.bound(12)
        self.holdings.bound(TRANSFER)
        self.holdings.bound(15)
        self.assertEqual(self.holdings.pane(), 12)
        self.holdings.ended(TRANSFER)
        self.assertEqual(self.holdings.pane(), 12)
        self.holdings.ended(12)
        self.assertEqual(self.holdings.pane(), 15)
        self.holdings.bound(TRANSFER)
        self.assertEqual(self.holdings.pane(), 15)
        self.holdings.ended(15)
        self.assertEqual(self.holdings.pane(), TRANSFER)
        self.holdings.ended(TRANSFER)
        self.assertIsNone(self.holdings.pane())

    def test_ends_of_other_objects(self):
        self.holdings.bound(TRANSFER)
        self.holdings.ended(1234)
        self.assertEqual(self.holdings.pane(), TRANSFER)


class Offers(HoldingsTest):
    def setUp(self):
        super().setUp()
        self.holdings.bound(TRANSFER)

    def read(self, number, kind, begin, length):
        return self.serve(number, "offer", "read", kind, begin, length)

    def test_told(self):
        found, told = self.offered(("b", [1, 2, 3]), ("a", []), way=2)
        self.assertIs(found, True)
        self.assertEqual(told, [
            (TRANSFER, "offer", FIRST_OFFER, 2), (FIRST_OFFER, "kind", "b", 3), (FIRST_OFFER, "kind", "a", 0),
        ])
        self.assertEqual(self.objects.interface_of(FIRST_OFFER), "offer")

    def test_at_the_pane(self):
        self.holdings.bound(OTHER_TRANSFER)
        self.holdings.ended(TRANSFER)
        self.assertEqual(self.offered(("a", []))[1][0], (OTHER_TRANSFER, "offer", FIRST_OFFER, 0))

    def test_nothing_is_told(self):
        self.assertEqual(self.offered(), (False, []))
        self.assertIs(self.offered()[0], False)
        self.holdings.ended(TRANSFER)
        self.assertEqual(self.offered(("a", [])), (False, []))
        self.assertEqual(self.objects.numbers(), [1])

    def test_how_many_objects(self):
        for number in range(2, 512):
            self.objects.give(number, "region")
        self.assertEqual(len(self.objects.numbers()), 511)
        self.assertIs(self.offered(("a", []))[0], True)
        self.assertEqual(self.offered(("a", [])), (False, []))
        self.objects.end(300)
        self.assertIs(self.offered(("a", []))[0], True)

    def test_reading(self):
        self.offered(("a", list(range(10))), ("b", []))
        self.assertEqual(self.read(FIRST_OFFER, "a", 0, 10), [(FIRST_OFFER, "part", "a", 0, list(range(10)))])
        self.assertEqual(self.read(FIRST_OFFER, "a", 3, 2), [(FIRST_OFFER, "part", "a", 3, [3, 4])])
        self.assertEqual(self.read(FIRST_OFFER, "a", 10, 0), [(FIRST_OFFER, "part", "a", 10, [])])
        self.assertEqual(self.read(FIRST_OFFER, "b", 0, 0), [(FIRST_OFFER, "part", "b", 0, [])])

    def test_faults_of_reading(self):
        self.offered(("a", [1] * 2000))
        out = (FIRST_OFFER, 1, "place out of range")
        self.assertEqual(self.read(FIRST_OFFER, "c", 0, 0), (FIRST_OFFER, 0, "no such kind"))
        self.assertEqual(self.read(FIRST_OFFER, "c", 9999, 0), (FIRST_OFFER, 0, "no such kind"))
        self.assertEqual(self.read(FIRST_OFFER, "a", 1999, 2), out)
        self.assertEqual(self.read(FIRST_OFFER, "a", 2001, 0), out)
        self.assertEqual(self.read(FIRST_OFFER, "a", 0, 1025), out)
        self.assertEqual(len(self.read(FIRST_OFFER, "a", 976, 1024)[0][4]), 1024)
        self.assertEqual(self.read(FIRST_OFFER, "a", 977, 1024), out)
        self.assertEqual(self.read(FIRST_OFFER, "a", 2 ** 32 - 1, 2 ** 32 - 1), out)

    def test_two_are_kept(self):
        self.offered(("a", [1]))
        self.offered(("a", [2]))
        self.assertEqual(self.read(FIRST_OFFER, "a", 0, 1), [(FIRST_OFFER, "part", "a", 0, [1])])
        self.offered(("a", [3]))
        # Reading from one that is gone does nothing, whatever is read.
        for kind, begin, length in [("a", 0, 1), ("b", 0, 0), ("a", 5, 5000)]:
            self.assertEqual(self.read(FIRST_OFFER, kind, begin, length), [])
        for at in (1, 2):
            number = FIRST_OFFER + at
            self.assertEqual(self.read(number, "a", 0, 1), [(number, "part", "a", 0, [at + 1])])
        self.assertEqual(self.objects.interface_of(FIRST_OFFER), "offer")
        self.offered(("a", [4]))
        self.assertEqual(self.read(FIRST_OFFER + 1, "a", 0, 1), [])
        self.assertEqual(len(self.read(FIRST_OFFER + 2, "a", 0, 1)), 1)

    def test_offers_that_have_ended_are_not_kept(self):
        self.offered(("a", [1]))
        self.offered(("a", [2]))
        self.end(FIRST_OFFER + 1, "offer")
        self.offered(("a", [3]))
        self.assertEqual(len(self.read(FIRST_OFFER, "a", 0, 1)), 1)
        self.assertEqual(len(self.read(FIRST_OFFER + 2, "a", 0, 1)), 1)
        self.end(FIRST_OFFER, "offer")

    def test_one_that_is_gone_ends(self):
        for _ in range(3):
            self.offered(("a", [1]))
        self.end(FIRST_OFFER, "offer")
        self.offered(("a", [1]))
        self.assertEqual(self.read(FIRST_OFFER + 1, "a", 0, 1), [])
        self.assertEqual(len(self.read(FIRST_OFFER + 2, "a", 0, 1)), 1)

    def test_an_offer_that_is_not_told_takes_no_place(self):
        self.offered(("a", [1]))
        self.offered(("a", [2]))
        self.offered()
        self.assertEqual(len(self.read(FIRST_OFFER, "a", 0, 1)), 1)

    def test_goods_stay_as_they_were(self):
        goods = [("a", [1])]
        self.holdings.offered(self.objects, 0, goods, Reply())
        goods[0][1].append(2)
        goods.append(("b", []))
        self.assertEqual(self.read(FIRST_OFFER, "a", 0, 1), [(FIRST_OFFER, "part", "a", 0, [1])])
        self.assertEqual(self.read(FIRST_OFFER, "a", 1, 1), (FIRST_OFFER, 1, "place out of range"))
        self.assertEqual(self.read(FIRST_OFFER, "b", 0, 0), (FIRST_OFFER, 0, "no such kind"))

    def test_offers_stay_without_a_pane(self):
        self.offered(("a", [1]))
        self.end(TRANSFER, "transfer")
        self.assertEqual(len(self.read(FIRST_OFFER, "a", 0, 1)), 1)


class Drags(HoldingsTest):
    GOODS = [("b", [1]), ("a", [])]

    def hovers(self):
        return self.tell(self.holdings.hovers, 30, -4, 5, self.GOODS)[1]

    def moves(self):
        return self.tell(self.holdings.moves, 9, -1, 2)[1]

    def leaves(self):
        return self.tell(self.holdings.leaves)[1]

    def test_with_a_pane(self):
        self.holdings.bound(TRANSFER)
        self.assertEqual(self.hovers(), [
            (TRANSFER, "hover", 30, -4, 5), (TRANSFER, "hover_kind", "b"), (TRANSFER, "hover_kind", "a"),
        ])
        self.assertEqual(self.moves(), [(TRANSFER, "moved", 9, -1, 2)])
        self.assertEqual(self.moves(), [(TRANSFER, "moved", 9, -1, 2)])
        self.assertEqual(self.leaves(), [(TRANSFER, "away")])
        self.assertEqual(self.leaves(), [])
        self.assertEqual(self.moves(), [])

    def test_without_hover(self):
        self.holdings.bound(TRANSFER)
        self.assertEqual(self.moves() + self.leaves(), [])

    def test_without_a_pane(self):
        self.assertEqual(self.hovers() + self.moves(), [])
        # It was not told of the hover, so a pane that comes later is told nothing of it.
        self.holdings.bound(TRANSFER)
        self.assertEqual(self.moves() + self.leaves(), [])
        self.assertEqual(len(self.hovers()), 3)

    def test_another_pane(self):
        self.holdings.bound(TRANSFER)
        self.holdings.bound(OTHER_TRANSFER)
        self.hovers()
        self.holdings.ended(TRANSFER)
        self.assertEqual(self.moves(), [(OTHER_TRANSFER, "moved", 9, -1, 2)])
        self.assertEqual(self.leaves(), [(OTHER_TRANSFER, "away")])

    def test_a_pane_that_goes_and_comes(self):
        self.holdings.bound(TRANSFER)
        self.hovers()
        self.holdings.ended(TRANSFER)
        self.assertEqual(self.moves(), [])
        self.holdings.bound(OTHER_TRANSFER)
        self.assertEqual(self.moves(), [(OTHER_TRANSFER, "moved", 9, -1, 2)])

    def test_away_is_due_without_a_pane(self):
        self.holdings.bound(TRANSFER)
        self.hovers()
        self.holdings.ended(TRANSFER)
        self.assertEqual(self.leaves(), [])
        self.holdings.bound(OTHER_TRANSFER)
        self.assertEqual(self.moves() + self.leaves(), [])

    def test_behind_a_drop(self):
        self.holdings.bound(TRANSFER)
        self.hovers()
        self.offered(*self.GOODS, way=2)
        self.holdings.dropped()
        self.assertEqual(self.moves() + self.leaves(), [])
        self.assertEqual(len(self.hovers()), 3)

    def test_an_offer_alone_is_no_drop(self):
        self.holdings.bound(TRANSFER)
        self.hovers()
        self.offered(*self.GOODS, way=0)
        self.assertEqual(len(self.moves()), 1)


class Captures(HoldingsTest):
    def ask(self, number=CAPTURE, x=0, y=0, width=2, height=3):
        self.kinds[number] = "capture"
        return self.serve(TRANSFER, "transfer", "ask", number, OUTPUT, x, y, width, height)

    def answered(self, number, picture):
        return self.tell(self.holdings.answered, number, picture)[1]

    def read(self, row, rows, number=CAPTURE):
        return self.serve(number, "capture", "read", row, rows)

    def test_asked(self):
        self.assertEqual(self.ask(x=-5, y=2 ** 31 - 1), [])
        self.assertEqual(self.wishes, [("ask", CAPTURE, OUTPUT, -5, 2 ** 31 - 1, 2, 3)])

    def test_sizes(self):
        empty, much = (TRANSFER, 4, "empty picture"), (TRANSFER, 2, "too much")
        for width, height, expected in [
            (0, 1, empty), (1, 0, empty), (0, 0, empty), (0, 257, empty), (257, 1, much), (1, 257, much),
            (256, 16, []), (16, 256, []), (64, 64, []), (256, 17, much), (65, 64, much), (2 ** 32 - 1, 1, much),
            (17, 240, []), (17, 241, much), (241, 17, much),
            (1, 1, []),
        ]:
            self.setUp()
            self.assertEqual(self.ask(width=width, height=height), expected, (width, height))

    def test_how_many(self):
        self.ask(CAPTURE)
        self.ask(CAPTURE + 1)
        self.assertEqual(self.ask(CAPTURE + 2), (TRANSFER, 2, "too much"))
        self.assertEqual(self.ask(CAPTURE + 2, width=0), (TRANSFER, 4, "empty picture"))
        self.answered(CAPTURE, None)
        self.answered(CAPTURE + 1, (2, 3, [0] * 24))
        self.assertEqual(self.ask(CAPTURE + 2), (TRANSFER, 2, "too much"))
        self.end(CAPTURE, "capture")
        self.assertEqual(self.ask(CAPTURE + 2), [])

    def test_refused(self):
        self.ask()
        self.assertEqual(self.answered(CAPTURE, None), [(CAPTURE, "refused")])
        self.assertEqual(self.read(0, 0), (CAPTURE, 1, "place out of range"))

    def test_allowed(self):
        self.ask()
        octets = list(range(24))
        self.assertEqual(self.read(0, 0), (CAPTURE, 1, "place out of range"))
        self.assertEqual(self.answered(CAPTURE, (2, 3, octets)), [(CAPTURE, "allowed", 2, 3)])
        octets[0] = 99
        self.assertEqual(self.read(0, 3), [(CAPTURE, "rows", 0, list(range(24)))])
        self.assertEqual(self.read(1, 1), [(CAPTURE, "rows", 1, list(range(8, 16)))])
        self.assertEqual(self.read(3, 0), [(CAPTURE, "rows", 3, [])])

    def test_faults_of_reading(self):
        self.ask()
        self.answered(CAPTURE, (64, 64, [1] * 16384))
        out = (CAPTURE, 1, "place out of range")
        self.assertEqual(len(self.read(60, 4)[0][3]), 1024)
        for row, rows in [(60, 5), (65, 0), (64, 1), (0, 5), (2 ** 32 - 1, 1)]:
            self.assertEqual(self.read(row, rows), out)

    def test_ended_before_the_answer(self):
        self.ask()
        self.end(CAPTURE, "capture")
        self.assertEqual(self.answered(CAPTURE, (2, 3, [0] * 24)), [])
        self.assertEqual(self.answered(CAPTURE, None), [])


class FetchesAndWatches(HoldingsTest):
    def fetch(self, number, name):
        self.kinds[number] = "fetch"
        return self.serve(TRANSFER, "transfer", "fetch", number, name)

    def watch(self, number, label):
        self.kinds[number] = "watch"
        return self.serve(TRANSFER, "transfer", "watch", number, label)

    def compare(self, shared, present=()):
        return self.tell(self.holdings.compare, shared, list(present))[1]

    def read(self, begin, length, number=FETCH):
        return self.serve(number, "fetch", "read", begin, length)

    def test_names_and_labels(self):
        self.assertEqual((self.holdings.fetch_names(), self.holdings.watch_labels()), ([], []))
        self.fetch(FETCH + 1, "b")
        self.fetch(FETCH, "a")
        self.fetch(FETCH + 2, "b")
        self.watch(WATCH, "y")
        self.watch(WATCH + 1, "")
        self.assertEqual(self.holdings.fetch_names(), ["b", "a", "b"])
        self.assertEqual(self.holdings.watch_labels(), ["y", ""])
        self.end(FETCH, "fetch")
        self.end(WATCH, "watch")
        self.assertEqual((self.holdings.fetch_names(), self.holdings.watch_labels()), (["b", "b"], [""]))

    def test_lengths(self):
        self.assertEqual(self.fetch(FETCH, "a" * 128), [])
        self.assertEqual(self.fetch(FETCH + 1, "a" * 129), (TRANSFER, 3, "text too long"))
        self.assertEqual(self.watch(WATCH, "a" * 128), [])
        self.assertEqual(self.watch(WATCH + 1, "a" * 129), (TRANSFER, 3, "text too long"))

    def test_how_many(self):
        for number in range(4):
            self.assertEqual(self.fetch(FETCH + number, "a"), [])
        for number in range(8):
            self.assertEqual(self.watch(WATCH + number, "a"), [])
        self.assertEqual(self.fetch(FETCH + 4, "a"), (TRANSFER, 2, "too much"))
        self.assertEqual(self.watch(WATCH + 8, "a"), (TRANSFER, 2, "too much"))
        self.assertEqual(self.fetch(FETCH + 4, "a" * 129), (TRANSFER, 3, "text too long"))
        self.assertEqual(self.watch(WATCH + 8, "a" * 129), (TRANSFER, 3, "text too long"))
        self.end(FETCH, "fetch")
        self.end(WATCH, "watch")
        self.assertEqual(self.fetch(FETCH + 4, "a"), [])
        self.assertEqual(self.watch(WATCH + 8, "a"), [])

    def test_a_fetch_over_several_ticks(self):
        self.fetch(FETCH, "a")
        for octets, expected in [
            (None, []), ([1, 2], [(FETCH, "changed", 2)]), ([1, 2], []), ([1, 3], [(FETCH, "changed", 2)]),
            ([], [(FETCH, "changed", 0)]), ([], []), (None, [(FETCH, "gone")]), (None, []),
            ([], [(FETCH, "changed", 0)]), ([5], [(FETCH, "changed", 1)]),
        ]:
            self.assertEqual(self.compare([octets]), expected)

    def test_a_watch_over_several_ticks(self):
        for first in (True, False):
            self.setUp()
            self.watch(WATCH, "a")
            words = {True: [(WATCH, "there")], False: [(WATCH, "gone")]}
            for present, expected in [
                (first, words[first]), (first, []), (not first, words[not first]), (not first, []),
                (first, words[first]),
            ]:
                self.assertEqual(self.compare([], [present]), expected)

    def test_the_order(self):
        self.watch(WATCH + 1, "a")
        self.fetch(FETCH + 1, "a")
        self.watch(WATCH, "b")
        self.fetch(FETCH, "b")
        self.assertEqual(self.compare([[1], [2, 3]], [True, False]), [
            (FETCH + 1, "changed", 1), (FETCH, "changed", 2), (WATCH + 1, "there"), (WATCH, "gone"),
        ])

    def test_reading(self):
        self.fetch(FETCH, "a")
        out = (FETCH, 1, "place out of range")
        self.assertEqual(self.read(0, 0), out)
        self.compare([None])
        self.assertEqual(self.read(0, 0), out)
        self.compare([list(range(5))])
        self.assertEqual(self.read(1, 3), [(FETCH, "part", 1, [1, 2, 3])])
        self.assertEqual(self.read(5, 0), [(FETCH, "part", 5, [])])
        self.assertEqual(self.read(5, 1), out)
        self.assertEqual(self.read(6, 0), out)
        self.compare([[]])
        self.assertEqual(self.read(0, 0), [(FETCH, "part", 0, [])])
        self.compare([None])
        self.assertEqual(self.read(0, 0), out)

    def test_reading_much(self):
        self.fetch(FETCH, "a")
        self.compare([[7] * 2000])
        self.assertEqual(self.read(976, 1024), [(FETCH, "part", 976, [7] * 1024)])
        self.assertEqual(self.read(0, 1025), (FETCH, 1, "place out of range"))
        self.assertEqual(self.read(977, 1024), (FETCH, 1, "place out of range"))

    def test_octets_stay_as_they_were(self):
        self.fetch(FETCH, "a")
        octets = [1]
        self.compare([octets])
        octets[0] = 2
        self.assertEqual(self.read(0, 1), [(FETCH, "part", 0, [1])])
        self.assertEqual(self.compare([octets]), [(FETCH, "changed", 1)])


if __name__ == "__main__":
    unittest.main()
