"""Points 13, 15 and 16: the order in which a message is looked at."""

import unittest

from sillwatch.errors import Fault
from sillwatch.objects.owned import Objects
from sillwatch.objects.requests import Request, fault_octets, look_at, new_object
from sillwatch.objects.tables import interface_names, request_opcode, request_row
from sillwatch.octets.messages import cut_messages, encode_message
from tests.helpers import fault_of

TOP = 2 ** 32 - 1
LAST_GIVEN = 4278190079
FIRST_MADE = 4278190080
SAMPLES = {"uint": 5, "int": -6, "text": "seven", "octets": [8, 9], "bound": ("memory", 9000)}


def every_object():
    """Return objects with one of each interface, numbered from 100 on in the order of the table."""
    objects = Objects()
    for at, name in enumerate(interface_names()):
        if name != "display":
            objects.give(100 + at, name)
    return objects


def number_of(interface):
    return 1 if interface == "display" else 100 + interface_names().index(interface)


def body_of(*arguments):
    return encode_message(1, 0, list(arguments))[8:]


def message(interface, name, *arguments):
    """Return a message to the object of an interface."""
    return number_of(interface), request_opcode(interface, name), body_of(*arguments)


def sample_of(part):
    """Return a fitting argument (kind, value) for what the table says of it."""
    kind, _, interfaces = part.partition(" ")
    if kind == "new":
        return kind, 9000
    if kind in ["object", "maybe"]:
        return kind, number_of(interfaces.split("|")[0])
    return kind, SAMPLES[kind]


class Accepted(unittest.TestCase):
    def test_each_request(self):
        objects = every_object()
        before = objects.numbers()
        for interface in interface_names():
            for opcode in range(12):
                row = request_row(interface, opcode)
                if row is None:
                    continue
                arguments = [sample_of(part) for part in row[1]]
                request = look_at(objects, (number_of(interface), opcode, body_of(*arguments)))
                self.assertIsInstance(request, Request)
                self.assertEqual(
                    (request.number, request.interface, request.name, request.arguments),
                    (number_of(interface), interface, row[0], [value for _, value in arguments]),
                )
                self.assertIs(request.ends, row[2])
        self.assertEqual(objects.numbers(), before)
        self.assertIsNone(objects.interface_of(9000))

    def test_fields(self):
        request = Request(4, "surface", "turn", [3], False)
        self.assertEqual((request.number, request.interface, request.name), (4, "surface", "turn"))
        self.assertEqual((request.arguments, request.ends), ([3], False))

    def test_an_object_of_the_server(self):
        objects = Objects()
        objects.make("offer")
        request = look_at(objects, (FIRST_MADE, 1, []))
        self.assertEqual((request.number, request.interface, request.name), (FIRST_MADE, "offer", "destroy"))
        self.assertIs(request.ends, True)

    def test_none_for_a_maybe(self):
        objects = every_object()
        self.assertEqual(look_at(objects, message("surface", "attach", ("maybe", 0))).arguments, [0])
        self.assertEqual(look_at(objects, message("surface", "hears", ("maybe", 0))).arguments, [0])

    def test_one_of_two_interfaces(self):
        objects = every_object()
        for parent in ["window", "popup"]:
            rest = [("int", 0)] * 8 + [("uint", 1)] * 2 + [("int", 0)] * 2 + [("uint", 0)] * 2
            arguments = [("new", 7), ("object", number_of("surface")), ("object", number_of(parent))] + rest
            request = look_at(objects, message("windows", "popup", *arguments))
            self.assertEqual(request.arguments, [value for _, value in arguments])

    def test_numbers_at_both_ends(self):
        objects = every_object()
        for number in [2, LAST_GIVEN]:
            self.assertEqual(look_at(objects, message("display", "sync", ("new", number))).arguments, [number])
            bound = ("bound", ("nothing", number))
            request = look_at(objects, message("registry", "bind", ("uint", 77), bound))
            self.assertEqual(request.arguments, [77, ("nothing", number)])

    def test_a_number_that_is_free_again(self):
        objects = Objects()
        objects.give(5, "callback")
        self.assertEqual(fault_of(look_at, objects, (1, 0, body_of(("new", 5)))), (1, 6, "number cannot be given"))
        objects.end(5)
        self.assertEqual(look_at(objects, (1, 0, body_of(("new", 5)))).arguments, [5])


class Refused(unittest.TestCase):
    def setUp(self):
        self.objects = every_object()

    def refuse(self, given, number, code, words):
        before = self.objects.numbers()
        body = list(given[2])
        self.assertEqual(fault_of(look_at, self.objects, given), (number, code, words))
        self.assertEqual(self.objects.numbers(), before)
        self.assertEqual(given[2], body)

    def fill(self, many):
        """Make so many objects that there are as many as told."""
        number = 5000
        while len(self.objects.numbers()) < many:
            self.objects.give(number, "callback")
            number += 1

    def test_no_such_object(self):
        for number in [0, 2, 99, 300, LAST_GIVEN, FIRST_MADE, TOP]:
            self.refuse((number, 0, []), 1, 3, "no such object")

    def test_an_object_that_has_ended(self):
        number = number_of("surface")
        self.objects.end(number)
        self.refuse((number, 3, []), 1, 3, "no such object")

    def test_no_such_request(self):
        for interface in interface_names():
            number = number_of(interface)
            many = len([k for k in range(20) if request_row(interface, k) is not None])
            for opcode in [many, many + 1, 65535]:
                self.refuse((number, opcode, []), number, 4, "no such request")

    def test_arguments_that_cannot_be_read(self):
        sync = number_of("display")
        self.refuse((sync, 0, []), sync, 2, "bad length")
        self.refuse((sync, 0, [1, 0, 0]), sync, 2, "bad length")
        self.refuse((sync, 0, [0, 0, 0, 0]), sync, 2, "object missing")
        surface = number_of("surface")
        self.refuse((surface, 3, [0, 0, 0, 0]), surface, 2, "bad length")
        window = number_of("window")
        self.refuse((window, 1, [2, 0, 0, 0, 37, 0, 0, 0]), window, 2, "bad text")
        self.refuse((window, 1, [2, 0, 0, 0, 97, 0, 0, 1]), window, 2, "bad padding")
        self.refuse((window, 1, [0, 0, 0, 0]), window, 2, "bad length")
        buffer = number_of("buffer")
        self.refuse((buffer, 0, [0, 0, 0, 0, 1, 0, 0, 0, 9, 9, 0, 0]), buffer, 2, "bad padding")
        registry = number_of("registry")
        self.refuse((registry, 0, [1] * 4 + [1, 0, 0, 0] + [0] * 8), registry, 2, "object missing")

    def test_a_named_object_is_missing(self):
        surface = number_of("surface")
        self.refuse(message("surface", "attach", ("maybe", 77)), surface, 3, "no such object")
        self.refuse(message("surface", "hears", ("maybe", FIRST_MADE)), surface, 3, "no such object")
        sub = number_of("sub")
        self.refuse(message("sub", "above", ("object", 77)), sub, 3, "no such object")
        transfer = number_of("transfer")
        drag = message("transfer", "drag", ("object", TOP), ("uint", 0))
        self.refuse(drag, transfer, 3, "no such object")

    def test_a_named_object_is_of_another_kind(self):
        for other in interface_names():
            number = ("maybe", number_of(other))
            surface = number_of("surface")
            if other != "buffer":
                self.refuse(message("surface", "attach", number), surface, 8, "object of another kind")
            if other != "region":
                self.refuse(message("surface", "hears", number), surface, 8, "object of another kind")
            if other != "source":
                give = message("transfer", "give", ("object", number_of(other)), ("uint", 0), ("uint", 0))
                self.refuse(give, number_of("transfer"), 8, "object of another kind")

    def test_neither_of_two_interfaces(self):
        windows = number_of("windows")
        rest = [("int", 0)] * 8 + [("uint", 1)] * 2 + [("int", 0)] * 2 + [("uint", 0)] * 2
        for other in interface_names():
            if other not in ["window", "popup"]:
                named = [("object", number_of("surface")), ("object", number_of(other))]
                given = message("windows", "popup", ("new", 7), *named, *rest)
                self.refuse(given, windows, 8, "object of another kind")

    def test_the_first_named_object_comes_first(self):
        joiner = number_of("joiner")
        surface, region = number_of("surface"), number_of("region")
        for first, second, code in [
            (77, region, 3), (region, 77, 8), (surface, 77, 3), (surface, region, 8), (77, surface, 3),
            (region, surface, 8),
        ]:
            words = "no such object" if code == 3 else "object of another kind"
            given = message("joiner", "join", ("new", 7), ("object", first), ("object", second))
            self.refuse(given, joiner, code, words)

    def test_numbers_that_cannot_be_given(self):
        for number in [1, number_of("surface"), FIRST_MADE, FIRST_MADE + 1, TOP]:
            self.refuse(message("display", "sync", ("new", number)), 1, 6, "number cannot be given")
            memory = message("memory", "buffer", ("new", number), ("uint", 0), ("uint", 0))
            self.refuse(memory, number_of("memory"), 6, "number cannot be given")
            bind = message("registry", "bind", ("uint", 1), ("bound", ("memory", number)))
            self.refuse(bind, number_of("registry"), 6, "number cannot be given")

    def test_a_new_object_is_not_there_yet(self):
        # The surface that is named has the number that the window is to have.
        given = message("windows", "window", ("new", 77), ("object", 77))
        self.refuse(given, number_of("windows"), 3, "no such object")

    def test_too_many_objects(self):
        self.fill(511)
        self.assertEqual(look_at(self.objects, message("display", "sync", ("new", 9000))).arguments, [9000])
        self.fill(512)
        self.refuse(message("display", "sync", ("new", 9000)), 1, 7, "too many objects")
        compositor = number_of("compositor")
        self.refuse(message("compositor", "region", ("new", 9000)), compositor, 7, "too many objects")
        bind = message("registry", "bind", ("uint", 1), ("bound", ("memory", 9000)))
        self.refuse(bind, number_of("registry"), 7, "too many objects")
        self.assertEqual(look_at(self.objects, message("surface", "turn", ("uint", 1))).arguments, [1])
        self.objects.end(5000)
        self.assertEqual(look_at(self.objects, message("display", "sync", ("new", 9000))).arguments, [9000])

    def test_two_problems_at_once(self):
        self.fill(512)
        window, joiner, windows = number_of("window"), number_of("joiner"), number_of("windows")
        surface, region = number_of("surface"), number_of("region")
        # No object, and no request, before all else.
        self.refuse((77, 99, [1]), 1, 3, "no such object")
        self.refuse((window, 99, [1]), window, 4, "no such request")
        # Arguments that cannot be read, before what they name.
        self.refuse((windows, 0, [1, 0, 0, 0, 77, 0, 0]), windows, 2, "bad length")
        self.refuse((windows, 0, [1, 0, 0, 0, 0, 0, 0, 0]), windows, 2, "object missing")
        self.refuse((windows, 0, [1, 0, 0, 0, 77, 0, 0, 0, 0]), windows, 2, "bad length")
        # What is named, before the new number, although the new number stands first.
        self.refuse(message("windows", "window", ("new", 1), ("object", 77)), windows, 3, "no such object")
        given = message("windows", "window", ("new", 1), ("object", region))
        self.refuse(given, windows, 8, "object of another kind")
        given = message("joiner", "join", ("new", 1), ("object", surface), ("object", region))
        self.refuse(given, joiner, 8, "object of another kind")
        given = message("windows", "window", ("new", 9000), ("object", 77))
        self.refuse(given, windows, 3, "no such object")
        # The new number, before how many there are.
        given = message("windows", "window", ("new", 1), ("object", surface))
        self.refuse(given, windows, 6, "number cannot be given")
        given = message("windows", "window", ("new", 9000), ("object", surface))
        self.refuse(given, windows, 7, "too many objects")


class NewObjects(unittest.TestCase):
    def test_each_request(self):
        for interface in interface_names():
            for opcode in range(12):
                row = request_row(interface, opcode)
                if row is None:
                    continue
                values = [sample_of(part)[1] for part in row[1]]
                request = Request(number_of(interface), interface, row[0], values, row[2])
                made = [part[4:] for part in row[1] if part.startswith("new ")]
                expected = (9000, made[0]) if made else None
                if row[0] == "bind":
                    expected = (9000, "memory")
                with self.subTest(interface=interface, name=row[0]):
                    self.assertEqual(new_object(request), expected)
                    self.assertEqual(request.arguments, values)

    def test_of_a_bind_the_text_tells(self):
        request = Request(5, "registry", "bind", [16, ("output", 30)], False)
        self.assertEqual(new_object(request), (30, "output"))
        self.assertEqual(request.arguments, [16, ("output", 30)])


class Faults(unittest.TestCase):
    def test_octets(self):
        fault = Fault(258, 4, "abc")
        body = [2, 1, 0, 0, 4, 0, 0, 0, 4, 0, 0, 0, 97, 98, 99, 0]
        self.assertEqual(fault_octets(fault), [1, 0, 0, 0, 0, 0, 24, 0] + body)
        self.assertEqual((fault.number, fault.code, fault.words), (258, 4, "abc"))

    def test_octets_of_several(self):
        for number, code, words in [(1, 1, "bad size"), (TOP, 8, "object of another kind"), (3, 0, "")]:
            arguments = [("uint", number), ("uint", code), ("text", words)]
            self.assertEqual(fault_octets(Fault(number, code, words)), encode_message(1, 0, arguments))

    def test_what_is_sent_is_cut_and_looked_at(self):
        sent = encode_message(1, 1, [("new", 2)]) + encode_message(2, 0, [("uint", 1), ("bound", ("memory", 3))])
        messages, rest, fault = cut_messages(sent)
        self.assertEqual((rest, fault), ([], False))
        objects = Objects()
        request = look_at(objects, messages[0])
        self.assertEqual((request.name, new_object(request)), ("registry", (2, "registry")))
        self.assertEqual(fault_of(look_at, objects, messages[1]), (1, 3, "no such object"))
        objects.give(*new_object(request))
        request = look_at(objects, messages[1])
        self.assertEqual((request.name, new_object(request)), ("bind", (3, "memory")))


if __name__ == "__main__":
    unittest.main()
