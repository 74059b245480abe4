"""Points 5, 7, 8, 10, 11 and 12: kinds of arguments, writing and reading them."""

import random
import unittest

from sillwatch.errors import BadLength, BadMessage, BadPadding, BadText, ObjectMissing
from sillwatch.octets.fields import field_octets, is_text, read_arguments
from sillwatch.octets.messages import encode_message
from tests.helpers import error_class_of

TOP = 2 ** 32 - 1
ALLOWED = [code for code in range(32, 127) if code != 37]


def four(number):
    return list(number.to_bytes(4, "little"))


class Texts(unittest.TestCase):
    def test_each_character(self):
        for code in range(300):
            with self.subTest(code=code):
                self.assertIs(is_text(chr(code)), code in ALLOWED)
                self.assertIs(is_text("ab" + chr(code) + "c"), code in ALLOWED)

    def test_lengths(self):
        self.assertIs(is_text(""), True)
        self.assertIs(is_text("x" * 999), True)
        self.assertIs(is_text("x" * 1000), True)
        self.assertIs(is_text("x" * 1001), False)
        self.assertIs(is_text("x" * 5000), False)

    def test_far_characters(self):
        self.assertIs(is_text("\u20ac"), False)
        self.assertIs(is_text("\U0001f600"), False)
        self.assertIs(is_text("\u0661"), False)


class Writing(unittest.TestCase):
    def refuse(self, kind, value):
        self.assertIs(error_class_of(field_octets, kind, value), BadMessage, (kind, value))

    def test_uint_and_maybe(self):
        for kind in ["uint", "maybe"]:
            self.assertEqual(field_octets(kind, 0), [0, 0, 0, 0])
            self.assertEqual(field_octets(kind, 1), [1, 0, 0, 0])
            self.assertEqual(field_octets(kind, 0x01020304), [4, 3, 2, 1])
            self.assertEqual(field_octets(kind, 2 ** 31), [0, 0, 0, 128])
            self.assertEqual(field_octets(kind, TOP), [255, 255, 255, 255])
            self.refuse(kind, -1)
            self.refuse(kind, TOP + 1)

    def test_object_and_new(self):
        for kind in ["object", "new"]:
            self.assertEqual(field_octets(kind, 1), [1, 0, 0, 0])
            self.assertEqual(field_octets(kind, 2 ** 31 + 258), [2, 1, 0, 128])
            self.assertEqual(field_octets(kind, TOP), [255, 255, 255, 255])
            self.refuse(kind, 0)
            self.refuse(kind, -1)
            self.refuse(kind, TOP + 1)

    def test_int(self):
        self.assertEqual(field_octets("int", 0), [0, 0, 0, 0])
        self.assertEqual(field_octets("int", 1), [1, 0, 0, 0])
        self.assertEqual(field_octets("int", -1), [255, 255, 255, 255])
        self.assertEqual(field_octets("int", -2), [254, 255, 255, 255])
        self.assertEqual(field_octets("int", -256), [0, 255, 255, 255])
        self.assertEqual(field_octets("int", 2 ** 31 - 1), [255, 255, 255, 127])
        self.assertEqual(field_octets("int", -2 ** 31), [0, 0, 0, 128])
        self.assertEqual(field_octets("int", -2 ** 31 + 1), [1, 0, 0, 128])
        self.refuse("int", 2 ** 31)
        self.refuse("int", -2 ** 31 - 1)
        self.refuse("int", TOP)

    def test_text(self):
        self.assertEqual(field_octets("text", ""), [1, 0, 0, 0, 0, 0, 0, 0])
        self.assertEqual(field_octets("text", "a"), [2, 0, 0, 0, 97, 0, 0, 0])
        self.assertEqual(field_octets("text", "ab"), [3, 0, 0, 0, 97, 98, 0, 0])
        self.assertEqual(field_octets("text", "abc"), [4, 0, 0, 0, 97, 98, 99, 0])
        self.assertEqual(field_octets("text", " ~AZ"), [5, 0, 0, 0, 32, 126, 65, 90, 0, 0, 0, 0])
        self.assertEqual(field_octets("text", "x" * 1000), [233, 3, 0, 0] + [120] * 1000 + [0, 0, 0, 0])
        self.assertEqual(field_octets("text", "x" * 999), [232, 3, 0, 0] + [120] * 999 + [0])

    def test_no_text(self):
        for value in ["x" * 1001, "50%", "%", "a\tb", "a\n", "\x7f", "\x1f", "\u00e9", "\0", "\r"]:
            self.refuse("text", value)

    def test_octets(self):
        self.assertEqual(field_octets("octets", []), [0, 0, 0, 0])
        self.assertEqual(field_octets("octets", [0]), [1, 0, 0, 0, 0, 0, 0, 0])
        self.assertEqual(field_octets("octets", [255, 1]), [2, 0, 0, 0, 255, 1, 0, 0])
        self.assertEqual(field_octets("octets", [7, 8, 9]), [3, 0, 0, 0, 7, 8, 9, 0])
        self.assertEqual(field_octets("octets", [7, 8, 9, 37]), [4, 0, 0, 0, 7, 8, 9, 37])
        self.assertEqual(field_octets("octets", [5] * 16384), [0, 64, 0, 0] + [5] * 16384)
        self.assertEqual(field_octets("octets", [5] * 16383), [255, 63, 0, 0] + [5] * 16383 + [0])

    def test_no_octets(self):
        for value in [[5] * 16385, [256], [-1], [0, 0, 256], [1, -1, 1]]:
            self.refuse("octets", value)

    def test_bound(self):
        self.assertEqual(field_octets("bound", ("", 1)), [1, 0, 0, 0, 0, 0, 0, 0, 1, 0, 0, 0])
        self.assertEqual(field_octets("bound", ("abcd", TOP)), [5, 0, 0, 0, 97, 98, 99, 100, 0, 0, 0, 0] + [255] * 4)
        self.refuse("bound", ("a", 0))
        self.refuse("bound", ("a", TOP + 1))
        self.refuse("bound", ("a", -1))
        self.refuse("bound", ("%", 1))
        self.refuse("bound", ("x" * 1001, 1))

    def test_values_of_other_kinds(self):
        numbers = ["uint", "int", "object", "maybe", "new"]
        for kind in numbers + ["octets", "bound"]:
            self.refuse(kind, "12")
        for kind in numbers + ["text", "bound"]:
            self.refuse(kind, [1])
        for kind in ["text", "octets", "bound"]:
            self.refuse(kind, 1)
        for kind in numbers + ["text", "octets"]:
            self.refuse(kind, ("a", 1))
        self.refuse("bound", (1, "a"))

    def test_true_and_false_are_no_integers(self):
        for kind in ["uint", "int", "object", "maybe", "new"]:
            self.refuse(kind, True)
        self.refuse("uint", False)
        self.refuse("octets", [True])
        self.refuse("bound", ("a", True))

    def test_unknown_kinds(self):
        for kind in ["", "Uint", "string", "new callback", "object ", "fixed"]:
            self.refuse(kind, 1)
            self.refuse(kind, "a")
            self.refuse(kind, [1])

    def test_what_is_handed_in_stays(self):
        value = [1, 2, 3, 4]
        octets = field_octets("octets", value)
        octets.append(9)
        octets[4] = 77
        self.assertEqual(value, [1, 2, 3, 4])
        self.assertEqual(field_octets("octets", value), [4, 0, 0, 0, 1, 2, 3, 4])


class Reading(unittest.TestCase):
    def refuse(self, error, kinds, octets):
        self.assertIs(error_class_of(read_arguments, kinds, octets), error, (kinds, octets[:12]))

    def test_numbers(self):
        for kind in ["uint", "maybe"]:
            self.assertEqual(read_arguments([kind], [0, 0, 0, 0]), [0])
        for kind in ["uint", "maybe", "object", "new"]:
            self.assertEqual(read_arguments([kind], [1, 0, 0, 0]), [1])
            self.assertEqual(read_arguments([kind], [4, 3, 2, 1]), [0x01020304])
            self.assertEqual(read_arguments([kind], [0, 0, 0, 128]), [2 ** 31])
            self.assertEqual(read_arguments([kind], [255] * 4), [TOP])

    def test_int(self):
        self.assertEqual(read_arguments(["int"], [0, 0, 0, 0]), [0])
        self.assertEqual(read_arguments(["int"], [255, 255, 255, 127]), [2 ** 31 - 1])
        self.assertEqual(read_arguments(["int"], [0, 0, 0, 128]), [-2 ** 31])
        self.assertEqual(read_arguments(["int"], [255] * 4), [-1])

    def test_no_arguments(self):
        self.assertEqual(read_arguments([], []), [])
        self.refuse(BadLength, [], [0])
        self.refuse(BadLength, [], [0, 0, 0, 0])

    def test_texts(self):
        self.assertEqual(read_arguments(["text"], [1, 0, 0, 0, 0, 0, 0, 0]), [""])
        self.assertEqual(read_arguments(["text"], [4, 0, 0, 0, 97, 98, 99, 0]), ["abc"])
        self.assertEqual(read_arguments(["text"], [233, 3, 0, 0] + [120] * 1000 + [0] * 4), ["x" * 1000])

    def test_each_character(self):
        for code in range(256):
            octets = [3, 0, 0, 0, 97, code, 0, 0]
            with self.subTest(code=code):
                if code in ALLOWED:
                    self.assertEqual(read_arguments(["text"], octets), ["a" + chr(code)])
                else:
                    self.refuse(BadText, ["text"], octets)

    def test_octets(self):
        self.assertEqual(read_arguments(["octets"], [0, 0, 0, 0]), [[]])
        self.assertEqual(read_arguments(["octets"], [1, 0, 0, 0, 255, 0, 0, 0]), [[255]])
        self.assertEqual(read_arguments(["octets"], [4, 0, 0, 0, 1, 2, 3, 37]), [[1, 2, 3, 37]])
        self.assertEqual(read_arguments(["octets"], [0, 64, 0, 0] + [9] * 16384), [[9] * 16384])

    def test_bound(self):
        self.assertEqual(read_arguments(["bound"], [2, 0, 0, 0, 97, 0, 0, 0, 5, 0, 0, 1]), [("a", 2 ** 24 + 5)])

    def test_missing_objects(self):
        self.refuse(ObjectMissing, ["object"], [0, 0, 0, 0])
        self.refuse(ObjectMissing, ["new"], [0, 0, 0, 0])
        self.refuse(ObjectMissing, ["bound"], [2, 0, 0, 0, 97, 0, 0, 0, 0, 0, 0, 0])

    def test_octets_end_too_early(self):
        whole = {
            "uint": [1, 0, 0, 0],
            "int": [1, 0, 0, 0],
            "object": [1, 0, 0, 0],
            "maybe": [1, 0, 0, 0],
            "new": [1, 0, 0, 0],
            "text": [3, 0, 0, 0, 97, 98, 0, 0],
            "octets": [2, 0, 0, 0, 97, 98, 0, 0],
            "bound": [3, 0, 0, 0, 97, 98, 0, 0, 1, 0, 0, 0],
        }
        for kind, octets in whole.items():
            for length in range(len(octets)):
                self.refuse(BadLength, [kind], octets[:length])
                self.refuse(BadLength, ["uint", kind], [0, 0, 0, 0] + octets[:length])

    def test_octets_go_on(self):
        self.refuse(BadLength, ["uint"], [0] * 5)
        self.refuse(BadLength, ["text"], [1, 0, 0, 0, 0, 0, 0, 0, 0, 0, 0, 0])
        self.refuse(BadLength, ["octets"], [0, 0, 0, 0, 0, 0, 0, 0])

    def test_numbers_before_texts(self):
        self.refuse(BadLength, ["text"], [0, 0, 0, 0])
        self.refuse(BadLength, ["text"], [0, 0, 0, 0, 0, 0, 0, 0])
        self.refuse(BadLength, ["text"], four(1002) + [120] * 1001 + [0] * 3)
        self.refuse(BadLength, ["text"], [255] * 4 + [120] * 8)
        self.refuse(BadLength, ["bound"], [0, 0, 0, 0, 1, 0, 0, 0])

    def test_numbers_before_octets(self):
        self.refuse(BadLength, ["octets"], four(16385) + [0] * 16388)
        self.refuse(BadLength, ["octets"], [255] * 4)

    def test_zero_behind_a_text(self):
        self.refuse(BadText, ["text"], [1, 0, 0, 0, 97, 0, 0, 0])
        self.refuse(BadText, ["text"], [4, 0, 0, 0, 97, 98, 99, 100])
        self.refuse(BadText, ["text"], [4, 0, 0, 0, 97, 0, 99, 0])

    def test_padding(self):
        self.refuse(BadPadding, ["text"], [2, 0, 0, 0, 97, 0, 1, 0])
        self.refuse(BadPadding, ["text"], [2, 0, 0, 0, 97, 0, 0, 1])
        self.refuse(BadPadding, ["text"], [1, 0, 0, 0, 0, 0, 97, 0])
        self.refuse(BadPadding, ["octets"], [1, 0, 0, 0, 9, 1, 0, 0])
        self.refuse(BadPadding, ["octets"], [1, 0, 0, 0, 9, 0, 1, 0])
        self.refuse(BadPadding, ["octets"], [3, 0, 0, 0, 9, 9, 9, 255])

    def test_order_of_a_text(self):
        # The characters are missing before they are none.
        self.refuse(BadLength, ["text"], [4, 0, 0, 0, 7, 7, 7])
        self.refuse(BadLength, ["text"], four(1002) + [7] * 1002)
        # They are none before the padding is missing, or is not zeros.
        self.refuse(BadText, ["text"], [2, 0, 0, 0, 7, 0])
        self.refuse(BadText, ["text"], [2, 0, 0, 0, 97, 1])
        self.refuse(BadText, ["text"], [2, 0, 0, 0, 37, 0, 1, 1])
        # The padding is missing before it is not zeros.
        self.refuse(BadLength, ["text"], [2, 0, 0, 0, 97, 0, 1])
        self.refuse(BadLength, ["text"], [1, 0, 0, 0, 0, 1, 1])

    def test_order_of_octets(self):
        self.refuse(BadLength, ["octets"], [1, 0, 0, 0, 9, 1])
        self.refuse(BadLength, ["octets"], [1, 0, 0, 0, 9, 1, 1])
        self.refuse(BadLength, ["octets"], four(16385) + [1] * 5)

    def test_order_of_a_bound(self):
        self.refuse(BadText, ["bound"], [2, 0, 0, 0, 7, 0, 0, 0, 0, 0, 0, 0])
        self.refuse(BadPadding, ["bound"], [2, 0, 0, 0, 97, 0, 1, 0, 0, 0, 0, 0])
        self.refuse(BadPadding, ["bound"], [2, 0, 0, 0, 97, 0, 1, 0])
        self.refuse(BadLength, ["bound"], [2, 0, 0, 0, 97, 0, 0, 0, 0, 0, 0])

    def test_the_first_problem_is_told(self):
        zero = [0, 0, 0, 0]
        bad_text = [2, 0, 0, 0, 7, 0, 0, 0]
        bad_padding = [1, 0, 0, 0, 9, 1, 0, 0]
        self.refuse(ObjectMissing, ["object", "text"], zero + bad_text)
        self.refuse(BadText, ["text", "object"], bad_text + zero)
        self.refuse(BadPadding, ["octets", "new"], bad_padding + zero)
        self.refuse(ObjectMissing, ["new", "octets"], zero + bad_padding)
        self.refuse(BadText, ["text", "octets"], bad_text + bad_padding)
        self.refuse(BadPadding, ["octets", "text"], bad_padding + bad_text)
        # What goes on behind the last argument is looked at last, and what is missing when it is reached.
        self.refuse(ObjectMissing, ["object"], zero + [0])
        self.refuse(BadText, ["text"], bad_text + [0])
        self.refuse(BadPadding, ["octets"], bad_padding + [0])
        self.refuse(ObjectMissing, ["object", "uint"], zero)
        self.refuse(BadLength, ["uint", "object"], zero)

    def test_what_is_handed_in_stays(self):
        kinds = ["octets", "text", "bound"]
        octets = [2, 0, 0, 0, 8, 9, 0, 0, 2, 0, 0, 0, 97, 0, 0, 0, 2, 0, 0, 0, 98, 0, 0, 0, 3, 0, 0, 0]
        before = list(octets)
        values = read_arguments(kinds, octets)
        self.assertEqual(values, [[8, 9], "a", ("b", 3)])
        values[0].append(1)
        values.append(1)
        self.assertEqual(octets, before)
        self.assertEqual(kinds, ["octets", "text", "bound"])


class Together(unittest.TestCase):
    """Point 12: what is written is read, and what is read is written."""

    def value_of(self, kind, source):
        text = "".join([chr(source.choice(ALLOWED)) for _ in range(source.choice([0, 1, 2, 3, 4, 5, 40]))])
        least = {"uint": 0, "maybe": 0, "object": 1, "new": 1}
        if kind in least:
            return source.choice([least[kind], 2 ** 31, TOP, source.randint(least[kind], TOP)])
        if kind == "int":
            return source.choice([-2 ** 31, 2 ** 31 - 1, -1, 0, source.randint(-2 ** 31, 2 ** 31 - 1)])
        if kind == "text":
            return text
        if kind == "bound":
            return text, source.randint(1, TOP)
        return [source.randint(0, 255) for _ in range(source.choice([0, 1, 2, 3, 4, 5, 50]))]

    def test_many(self):
        source = random.Random(12)
        every = ["uint", "int", "text", "octets", "object", "maybe", "new", "bound"]
        for _ in range(400):
            kinds = [source.choice(every) for _ in range(source.randint(0, 20))]
            values = [self.value_of(kind, source) for kind in kinds]
            octets = []
            for kind, value in zip(kinds, values):
                octets += field_octets(kind, value)
            self.assertEqual(len(octets) % 4, 0)
            self.assertEqual(encode_message(1, 0, list(zip(kinds, values)))[8:], octets)
            self.assertEqual(read_arguments(kinds, octets), values)

    def test_every_octet_and_character(self):
        for value in [list(range(256)), list(range(255)), []]:
            self.assertEqual(read_arguments(["octets"], field_octets("octets", value)), [value])
        text = "".join([chr(code) for code in ALLOWED])
        self.assertEqual(field_octets("text", text)[4:4 + len(text)], ALLOWED)
        self.assertEqual(read_arguments(["text"], field_octets("text", text)), [text])

    def test_longest(self):
        for kind, value in [("text", "~" * 1000), ("octets", [255] * 16384), ("bound", (" " * 1000, TOP))]:
            self.assertEqual(read_arguments([kind], field_octets(kind, value)), [value])


if __name__ == "__main__":
    unittest.main()
