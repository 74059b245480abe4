"""The interface: each name with its arguments, in the module under whose heading it stands."""

import importlib
import inspect
import unittest

FUNCTIONS = {
    "octets.messages": ["encode_message(number, opcode, arguments)", "cut_messages(octets)"],
    "octets.fields": ["is_text(value)", "field_octets(kind, value)", "read_arguments(kinds, octets)"],
    "objects.tables": [
        "interface_names()", "request_row(interface, opcode)", "request_opcode(interface, name)",
        "event_row(interface, opcode)", "event_octets(number, interface, name, values)",
    ],
    "objects.requests": ["look_at(objects, message)", "new_object(request)", "fault_octets(fault)"],
    "objects.registries": ["global_rows(outputs)", "bound_interface(number, name)"],
    "regions.bands": [
        "rectangle_region(x, y, width, height)", "united(a, b)", "common(a, b)", "without(a, b)",
        "shifted(region, dx, dy)", "scaled(region, n)", "turned(region, height)", "mirrored(region, width)",
        "rectangles(region)", "has_square(region, x, y)",
    ],
    "regions.steps": ["region_of(steps)"],
    "surfaces.pictures": ["clear_picture(width, height)"],
}
CLASSES = {
    "octets.messages Cutter()": ["feed(octets)"],
    "objects.owned Objects()": [
        "interface_of(number)", "numbers()", "may_give(number)", "is_full()", "give(number, interface)",
        "make(interface)", "end(number)",
    ],
    "objects.requests Request(number, interface, name, arguments, ends)": [],
    "objects.replies Reply()": ["tell(number, interface, name, values)", "end(number)", "wish(deed)"],
    "objects.registries Registries()": [
        "serve(request, outputs, time, reply)", "changed(before, after, reply)", "forget(number)", "output_of(number)",
    ],
    "outputs Output(number, x, y, width, height, scale, turn)": ["area()"],
    "surfaces.pictures Picture(width, height, pixels)": ["colour_at(x, y)", "turned(turn)"],
    "surfaces.buffers Buffers()": [
        "serve(request, other_pixels, reply)", "pixel_count()", "picture_of(number)", "region_of(number)",
    ],
    "errors Fault(number, code, words)": [],
    "errors BadKeymap(place, words)": [],
    "errors BadPolicy(line, column, words)": [],
}


def module_of(name):
    return importlib.import_module("sillwatch." + name)


def parts_of(words):
    """Return the name and the list of the arguments."""
    name, _, rest = words.partition("(")
    return name, [word for word in rest[:-1].split(", ") if word]


class Interface(unittest.TestCase):
    def check(self, thing, module, arguments):
        self.assertEqual(thing.__module__, "sillwatch." + module)
        found = list(inspect.signature(thing).parameters)
        self.assertEqual([name for name in found if name != "self"], arguments)

    def test_functions(self):
        for module, rows in FUNCTIONS.items():
            for words in rows:
                name, arguments = parts_of(words)
                with self.subTest(name=name):
                    function = getattr(module_of(module), name)
                    self.assertTrue(inspect.isfunction(function))
                    self.check(function, module, arguments)

    def test_classes(self):
        for heading, methods in CLASSES.items():
            module, _, words = heading.partition(" ")
            name, arguments = parts_of(words)
            with self.subTest(name=name):
                made = getattr(module_of(module), name)
                self.assertTrue(inspect.isclass(made))
                self.check(made, module, arguments)
                for method, expected in [parts_of(row) for row in methods]:
                    self.check(vars(made)[method], module, expected)

    def test_properties(self):
        cutter = module_of("octets.messages").Cutter
        for name in ["fault", "uncut"]:
            self.assertIsInstance(vars(cutter)[name], property)


if __name__ == "__main__":
    unittest.main()
