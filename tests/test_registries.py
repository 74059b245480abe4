"""Points 17, 18 and 19: binding, the answers of the display, and what is told of the outputs."""

import unittest

from sillwatch.objects.registries import Registries, bound_interface, global_rows
from sillwatch.objects.replies import Reply
from sillwatch.objects.tables import event_octets
from sillwatch.outputs import Output
from tests.helpers import ask, fault_of

GLOBALS = [(1, "memory"), (2, "compositor"), (3, "joiner"), (4, "windows"), (5, "seat"), (6, "transfer")]


def screen(number, width=100, height=50, scale=1, turn=0, x=0, y=0):
    return Output(number, x, y, width, height, scale, turn)


def there(registry, number, name):
    return event_octets(registry, "registry", "there", [number, name])


def gone(registry, number):
    return event_octets(registry, "registry", "gone", [number])


def size(number, *values):
    return event_octets(number, "output", "size", list(values))


def fields(outputs):
    return [
        (output.number, output.x, output.y, output.width, output.height, output.scale, output.turn)
        for output in outputs
    ]


class Globals(unittest.TestCase):
    def test_rows(self):
        self.assertEqual(global_rows([]), GLOBALS)
        outputs = [screen(7), screen(0), screen(999)]
        rows = global_rows(outputs)
        self.assertEqual(rows, GLOBALS + [(23, "output"), (16, "output"), (1015, "output")])
        rows.append((1, "x"))
        self.assertEqual(global_rows([]), GLOBALS)
        self.assertEqual(len(outputs), 3)

    def test_each_global_by_its_text(self):
        names = [name for _, name in GLOBALS]
        for number in range(1, 7):
            for name in names:
                self.assertIs(bound_interface(number, name), GLOBALS[number - 1][1] == name, (number, name))

    def test_wrong_texts(self):
        for number in [0, 1, 2, 3, 4, 5, 6, 7, 16, 17, 2 ** 32 - 1]:
            for name in ["", "Memory", "memory ", "display", "registry", "surface", "x", "outputs", "sub"]:
                self.assertIs(bound_interface(number, name), False)

    def test_globals_under_other_numbers(self):
        for number in [0, 7, 15, 16, 17, 1015, 2 ** 32 - 1]:
            for _, name in GLOBALS:
                self.assertIs(bound_interface(number, name), False)

    def test_outputs_under_any_number(self):
        for number in [0, 1, 6, 7, 15, 16, 1015, 1016, 2 ** 32 - 1]:
            self.assertIs(bound_interface(number, "output"), True)


class Serving(unittest.TestCase):
    def setUp(self):
        self.registries = Registries()
        self.outputs = [screen(3, 640, 480, 2, 5), screen(0, 10, 20, 1, 0)]

    def serve(self, request, outputs=None, time=0):
        """Serve a request and return its reply."""
        reply = Reply()
        outputs = self.outputs if outputs is None else outputs
        before = fields(outputs)
        arguments = list(request.arguments)
        self.registries.serve(request, outputs, time, reply)
        self.assertEqual(fields(outputs), before)
        self.assertEqual(request.arguments, arguments)
        self.assertEqual((reply.wishes, reply.applied), ([], []))
        return reply

    def bind(self, place, name, number, outputs=None):
        return self.serve(ask(2, "registry", "bind", place, (name, number)), outputs)

    def test_sync(self):
        for time, told in [(0, 0), (5, 5), (2 ** 32 - 1, 2 ** 32 - 1), (2 ** 32, 0), (3 * 2 ** 32 + 7, 7)]:
            reply = self.serve(ask(1, "display", "sync", 40), time=time)
            self.assertEqual(reply.told, [event_octets(40, "callback", "done", [told])])
            self.assertEqual(reply.ended, [40])

    def test_registry(self):
        reply = self.serve(ask(1, "display", "registry", 9))
        rows = GLOBALS + [(19, "output"), (16, "output")]
        self.assertEqual(reply.told, [there(9, number, name) for number, name in rows])
        self.assertEqual(reply.ended, [])
        reply = self.serve(ask(1, "display", "registry", 8), [])
        self.assertEqual(reply.told, [there(8, number, name) for number, name in GLOBALS])

    def test_binding_the_six(self):
        for number, name in GLOBALS:
            reply = self.bind(number, name, 30 + number)
            self.assertEqual((reply.told, reply.ended), ([], []))
            self.assertIsNone(self.registries.output_of(30 + number))

    def test_binding_by_a_wrong_text(self):
        for place, name in [
            (1, "compositor"), (2, "memory"), (6, "seat"), (0, "memory"), (7, "transfer"), (16, "memory"), (19, "seat"),
            (1, ""), (1, "display"), (5, "Seat"), (16, "size"),
        ]:
            reply = Reply()
            request = ask(2, "registry", "bind", place, (name, 40))
            fault = fault_of(self.registries.serve, request, self.outputs, 0, reply)
            self.assertEqual(fault, (2, 8, "no such global"))
            self.assertEqual((reply.told, reply.ended, reply.wishes, reply.applied), ([], [], [], []))
            self.assertIsNone(self.registries.output_of(40))

    def test_a_fault_is_told_of_the_registry(self):
        request = ask(77, "registry", "bind", 1, ("windows", 40))
        self.assertEqual(fault_of(self.registries.serve, request, [], 0, Reply()), (77, 8, "no such global"))

    def test_binding_an_output(self):
        reply = self.bind(19, "output", 40)
        self.assertEqual(reply.told, [size(40, 640, 480, 2, 5)])
        self.assertEqual(reply.ended, [])
        reply = self.bind(16, "output", 41)
        self.assertEqual(reply.told, [size(41, 10, 20, 1, 0)])
        self.assertEqual(self.registries.output_of(40), 3)
        self.assertEqual(self.registries.output_of(41), 0)

    def test_binding_an_output_that_is_not_there(self):
        for at, place in enumerate([0, 1, 3, 6, 15, 17, 18, 20, 1016, 2 ** 32 - 1]):
            reply = self.bind(place, "output", 40 + at)
            self.assertEqual((reply.told, reply.ended), ([], []))
            self.assertIsNone(self.registries.output_of(40 + at))

    def test_output_of_others(self):
        self.serve(ask(1, "display", "registry", 9))
        self.bind(1, "memory", 10)
        for number in [1, 2, 9, 10, 11]:
            self.assertIsNone(self.registries.output_of(number))

    def test_output_of_what_is_forgotten(self):
        self.bind(19, "output", 40)
        self.bind(19, "output", 41)
        self.registries.forget(40)
        self.assertIsNone(self.registries.output_of(40))
        self.assertEqual(self.registries.output_of(41), 3)


class Changing(unittest.TestCase):
    def setUp(self):
        self.registries = Registries()

    def open(self, number, outputs):
        self.registries.serve(ask(1, "display", "registry", number), outputs, 0, Reply())

    def bind(self, place, number, outputs):
        self.registries.serve(ask(2, "registry", "bind", place, ("output", number)), outputs, 0, Reply())

    def change(self, before, after):
        """Return what is told when the outputs change."""
        reply = Reply()
        shown = fields(before), fields(after)
        self.registries.changed(before, after, reply)
        self.assertEqual((fields(before), fields(after)), shown)
        self.assertEqual((reply.ended, reply.wishes, reply.applied), ([], [], []))
        return reply.told

    def test_nothing_is_told_without_objects(self):
        self.assertEqual(self.change([screen(1)], [screen(2)]), [])

    def test_outputs_come_and_go(self):
        before = [screen(5), screen(2), screen(9)]
        after = [screen(8), screen(2), screen(1)]
        self.open(9, before)
        self.assertEqual(self.change(before, after), [
            gone(9, 21), gone(9, 25), there(9, 24, "output"), there(9, 17, "output"),
        ])

    def test_outputs_stay(self):
        before = [screen(5), screen(2)]
        self.open(9, before)
        self.bind(21, 40, before)
        self.assertEqual(self.change(before, [screen(2), screen(5)]), [])
        self.assertEqual(self.change(before, [screen(5, x=7, y=-3), screen(2)]), [])

    def test_several_registries(self):
        before, after = [screen(5), screen(6)], [screen(7), screen(8)]
        self.open(30, before)
        self.open(9, before)
        expected = []
        for number in [30, 9]:
            expected += [gone(number, 21), gone(number, 22), there(number, 23, "output"), there(number, 24, "output")]
        self.assertEqual(self.change(before, after), expected)

    def test_a_registry_that_is_forgotten(self):
        self.open(30, [])
        self.open(9, [])
        self.registries.forget(30)
        self.assertEqual(self.change([], [screen(0)]), [there(9, 16, "output")])
        self.open(30, [])
        expected = [there(9, 16, "output"), there(30, 16, "output")]
        self.assertEqual(self.change([], [screen(0)]), expected)

    def test_each_of_four_values(self):
        before = [screen(5, 100, 50, 1, 0)]
        self.bind(21, 40, before)
        for values in [(101, 50, 1, 0), (100, 51, 1, 0), (100, 50, 2, 0), (100, 50, 1, 7)]:
            self.assertEqual(self.change(before, [screen(5, *values)]), [size(40, *values)])
            self.assertEqual(self.change([screen(5, *values)], before), [size(40, 100, 50, 1, 0)])

    def test_several_objects_of_one_output(self):
        before = [screen(5), screen(6)]
        self.bind(22, 50, before)
        self.bind(21, 60, before)
        self.bind(21, 40, before)
        after = [screen(5, 7), screen(6, 8)]
        expected = [size(50, 8, 50, 1, 0), size(60, 7, 50, 1, 0), size(40, 7, 50, 1, 0)]
        self.assertEqual(self.change(before, after), expected)
        self.registries.forget(60)
        self.assertEqual(self.change(before, after), [expected[0], expected[2]])
        self.bind(21, 60, before)
        self.assertEqual(self.change(before, after), [expected[0], expected[2], expected[1]])

    def test_sizes_stand_behind_all_registries(self):
        before = [screen(5), screen(6)]
        self.bind(21, 40, before)
        self.open(9, before)
        self.open(10, before)
        self.bind(21, 41, before)
        after = [screen(7), screen(5, 9, 9, 3, 3)]
        self.assertEqual(self.change(before, after), [
            gone(9, 22), there(9, 23, "output"), gone(10, 22), there(10, 23, "output"),
            size(40, 9, 9, 3, 3), size(41, 9, 9, 3, 3),
        ])

    def test_an_output_goes_and_comes_again(self):
        here, other, later = [screen(5)], [screen(6)], [screen(5, 60)]
        self.bind(21, 40, here)
        self.assertEqual(self.change(here, other), [])
        self.assertEqual(self.registries.output_of(40), 5)
        # It is told nothing of how the output comes again, even with another size.
        self.assertEqual(self.change(other, later), [])
        self.assertEqual(self.change(later, [screen(5, 60, 70)]), [size(40, 60, 70, 1, 0)])

    def test_an_object_that_was_bound_too_early(self):
        self.bind(21, 40, [screen(6)])
        self.assertEqual(self.change([screen(6)], [screen(5)]), [])
        self.assertEqual(self.change([screen(5)], [screen(5, 9)]), [])
        self.assertIsNone(self.registries.output_of(40))

    def test_programs_are_apart(self):
        other = Registries()
        self.open(9, [])
        self.bind(21, 40, [screen(5)])
        reply = Reply()
        other.changed([screen(5)], [screen(5, 9), screen(6)], reply)
        self.assertEqual(reply.told, [])
        self.assertIsNone(other.output_of(40))


if __name__ == "__main__":
    unittest.main()
