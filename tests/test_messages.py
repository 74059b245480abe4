"""Points 6 and 9: messages, and cutting them."""

import unittest

from sillwatch.errors import BadMessage, MessageTooLong
from sillwatch.octets.messages import Cutter, cut_messages, encode_message
from tests.helpers import error_class_of

TOP = 2 ** 32 - 1
NO_SIZES = [0, 1, 2, 3, 4, 5, 6, 7, 9, 10, 11, 13, 4095, 20477, 20478, 20479, 20481, 20484, 32768, 65532, 65535]


def header(number, opcode, size):
    return list(number.to_bytes(4, "little") + opcode.to_bytes(2, "little") + size.to_bytes(2, "little"))


def whole(number, opcode, body):
    return header(number, opcode, 8 + len(body)) + body


class Encoding(unittest.TestCase):
    def refuse(self, number, opcode, arguments, error=BadMessage):
        self.assertIs(error_class_of(encode_message, number, opcode, arguments), error)

    def test_header(self):
        self.assertEqual(encode_message(1, 0, []), [1, 0, 0, 0, 0, 0, 8, 0])
        self.assertEqual(encode_message(0x01020304, 0x0506, []), [4, 3, 2, 1, 6, 5, 8, 0])
        self.assertEqual(encode_message(TOP, 65535, []), [255, 255, 255, 255, 255, 255, 8, 0])

    def test_arguments(self):
        arguments = [("uint", 7), ("text", "hi"), ("int", -1)]
        expected = header(3, 2, 24) + [7, 0, 0, 0, 3, 0, 0, 0, 104, 105, 0, 0, 255, 255, 255, 255]
        self.assertEqual(encode_message(3, 2, arguments), expected)

    def test_each_kind(self):
        arguments = [
            ("uint", 1), ("int", 2), ("text", "t"), ("octets", [9]), ("object", 3), ("maybe", 0), ("new", 4),
            ("bound", ("b", 5)),
        ]
        body = [
            1, 0, 0, 0, 2, 0, 0, 0, 2, 0, 0, 0, 116, 0, 0, 0, 1, 0, 0, 0, 9, 0, 0, 0, 3, 0, 0, 0, 0, 0, 0, 0,
            4, 0, 0, 0, 2, 0, 0, 0, 98, 0, 0, 0, 5, 0, 0, 0,
        ]
        self.assertEqual(encode_message(8, 1, arguments), whole(8, 1, body))

    def test_numbers_and_opcodes(self):
        for number in [0, -1, TOP + 1]:
            self.refuse(number, 0, [])
        for opcode in [-1, 65536]:
            self.refuse(1, opcode, [])
        self.assertEqual(encode_message(1, 65535, [])[4:6], [255, 255])

    def test_many_arguments(self):
        self.assertEqual(encode_message(1, 0, [("uint", 1)] * 20), whole(1, 0, [1, 0, 0, 0] * 20))
        self.refuse(1, 0, [("uint", 1)] * 21)
        self.refuse(1, 0, [("uint", 1)] * 30)

    def test_values_and_kinds(self):
        self.refuse(1, 0, [("uint", -1)])
        self.refuse(1, 0, [("uint", 1), ("object", 0)])
        self.refuse(1, 0, [("size", 1)])
        self.refuse(1, 0, [("text", "%")])

    def test_greatest_size(self):
        octets = encode_message(1, 0, [("octets", [1] * 16384), ("octets", [2] * 4080)])
        self.assertEqual(len(octets), 20480)
        self.assertEqual(octets[6:8], [0, 80])
        self.assertEqual(len(encode_message(1, 0, [("octets", [1] * 16384), ("octets", [2] * 4077)])), 20480)
        for many in [4081, 4084, 16384]:
            self.refuse(1, 0, [("octets", [1] * 16384), ("octets", [2] * many)], MessageTooLong)

    def test_bad_message_comes_before_too_long(self):
        long = [("octets", [1] * 16384)] * 2
        self.refuse(1, 0, long, MessageTooLong)
        self.refuse(0, 0, long)
        self.refuse(1, 65536, long)
        self.refuse(1, 0, long + [("uint", -1)])
        self.refuse(1, 0, long + [("none", 1)])
        self.refuse(1, 0, long + [("octets", [256])])
        self.refuse(1, 0, long + [("uint", 1)] * 19)

    def test_what_is_handed_in_stays(self):
        inner = [1, 2, 3]
        arguments = [("octets", inner), ("text", "a")]
        encode_message(1, 0, arguments).append(0)
        self.assertEqual(arguments, [("octets", [1, 2, 3]), ("text", "a")])
        self.assertEqual(inner, [1, 2, 3])


class Cutting(unittest.TestCase):
    def test_too_few_octets(self):
        self.assertEqual(cut_messages([]), ([], [], False))
        for length in range(8):
            octets = header(9, 9, 8)[:length]
            self.assertEqual(cut_messages(octets), ([], octets, False))
            # Seven octets say nothing of the size yet, whatever they are.
            self.assertEqual(cut_messages([255] * length), ([], [255] * length, False))

    def test_single_messages(self):
        self.assertEqual(cut_messages([4, 3, 2, 1, 6, 5, 8, 0]), ([(0x01020304, 0x0506, [])], [], False))
        self.assertEqual(cut_messages(whole(TOP, 65535, [1, 2, 3, 4])), ([(TOP, 65535, [1, 2, 3, 4])], [], False))
        body = [k % 251 for k in range(20472)]
        self.assertEqual(cut_messages(whole(5, 6, body)), ([(5, 6, body)], [], False))

    def test_only_the_size_is_looked_at(self):
        self.assertEqual(cut_messages(whole(0, 7, [])), ([(0, 7, [])], [], False))

    def test_several_messages(self):
        octets = whole(1, 2, []) + whole(3, 4, [9] * 8) + whole(5, 6, [7] * 4)
        messages = [(1, 2, []), (3, 4, [9] * 8), (5, 6, [7] * 4)]
        self.assertEqual(cut_messages(octets), (messages, [], False))

    def test_rest(self):
        first = whole(1, 2, [5] * 4)
        second = whole(3, 4, [9] * 8)
        for length in range(len(second)):
            rest = second[:length]
            self.assertEqual(cut_messages(first + rest), ([(1, 2, [5] * 4)], rest, False))

    def test_sizes_that_are_none(self):
        for size in NO_SIZES:
            octets = header(1, 2, size)
            with self.subTest(size=size):
                self.assertEqual(cut_messages(octets), ([], octets, True))
                self.assertEqual(cut_messages(octets + [0] * 24), ([], octets + [0] * 24, True))

    def test_each_size(self):
        for size in range(65536):
            octets = header(1, 2, size)
            fault = size < 8 or size > 20480 or size % 4 != 0
            self.assertEqual(cut_messages(octets)[2], fault, size)

    def test_sizes_that_are_some(self):
        for size in [8, 12, 16, 256, 20476, 20480]:
            octets = header(1, 2, size)
            if size > 8:
                self.assertEqual(cut_messages(octets), ([], octets, False))
                self.assertEqual(cut_messages(octets + [1] * (size - 9)), ([], octets + [1] * (size - 9), False))
            body = [1] * (size - 8)
            self.assertEqual(cut_messages(octets + body), ([(1, 2, body)], [], False))

    def test_fault_behind_messages(self):
        front = whole(1, 2, []) + whole(3, 4, [9] * 8)
        bad = header(5, 6, 10) + [1, 2] + whole(7, 8, [])
        self.assertEqual(cut_messages(front + bad), ([(1, 2, []), (3, 4, [9] * 8)], bad, True))

    def test_what_is_handed_in_stays(self):
        octets = whole(1, 2, [5] * 4) + [1, 2, 3]
        before = list(octets)
        messages, rest, _ = cut_messages(octets)
        messages[0][2].append(8)
        rest.append(8)
        self.assertEqual(octets, before)
        whole_rest = [1, 2, 3]
        cut_messages(whole_rest)[1].append(8)
        self.assertEqual(whole_rest, [1, 2, 3])


class Portions(unittest.TestCase):
    def setUp(self):
        self.octets = whole(1, 2, []) + whole(3, 4, [9] * 8) + whole(5, 6, [7] * 300) + whole(7, 8, [1] * 4)
        self.messages = [(1, 2, []), (3, 4, [9] * 8), (5, 6, [7] * 300), (7, 8, [1] * 4)]

    def test_new(self):
        cutter = Cutter()
        self.assertIs(cutter.fault, False)
        self.assertEqual(cutter.uncut, [])
        self.assertEqual(cutter.feed([]), [])

    def test_every_length(self):
        for length in range(1, len(self.octets) + 2):
            cutter = Cutter()
            found = []
            for at in range(0, len(self.octets), length):
                found += cutter.feed(self.octets[at:at + length])
                so_far = cut_messages(self.octets[:at + length])
                self.assertEqual((found, cutter.uncut, cutter.fault), so_far)
            self.assertEqual(found, self.messages)

    def test_octet_by_octet(self):
        cutter = Cutter()
        for octet in whole(1, 2, [3] * 4)[:-1]:
            self.assertEqual(cutter.feed([octet]), [])
        self.assertEqual(cutter.uncut, whole(1, 2, [3] * 4)[:-1])
        self.assertEqual(cutter.feed([3]), [(1, 2, [3] * 4)])
        self.assertEqual(cutter.uncut, [])
        self.assertIs(cutter.fault, False)

    def test_fault_in_portions(self):
        bad = header(9, 9, 7)
        for length in range(1, len(self.octets) + 9):
            cutter = Cutter()
            found = []
            for at in range(0, len(self.octets + bad), length):
                found += cutter.feed((self.octets + bad)[at:at + length])
            self.assertEqual(found, self.messages)
            self.assertIs(cutter.fault, True)
            self.assertEqual(cutter.uncut, bad)

    def test_behind_a_fault(self):
        cutter = Cutter()
        self.assertEqual(cutter.feed(whole(1, 2, []) + header(3, 4, 20484)), [(1, 2, [])])
        self.assertIs(cutter.fault, True)
        self.assertEqual(cutter.feed(whole(5, 6, [])), [])
        self.assertEqual(cutter.feed([1]), [])
        self.assertEqual(cutter.feed([]), [])
        self.assertIs(cutter.fault, True)
        self.assertEqual(cutter.uncut, header(3, 4, 20484) + whole(5, 6, []) + [1])

    def test_fault_in_the_eighth_octet(self):
        cutter = Cutter()
        cutter.feed(header(3, 4, 9)[:7])
        self.assertIs(cutter.fault, False)
        self.assertEqual(cutter.feed([0]), [])
        self.assertIs(cutter.fault, True)
        self.assertEqual(cutter.uncut, header(3, 4, 9))

    def test_lists_are_its_own(self):
        cutter = Cutter()
        octets = [1, 2, 3]
        cutter.feed(octets)
        octets.append(4)
        cutter.uncut.append(5)
        self.assertEqual(cutter.uncut, [1, 2, 3])
        cutter.feed([4, 5])
        self.assertEqual(octets, [1, 2, 3, 4])
        self.assertEqual(Cutter().uncut, [])


if __name__ == "__main__":
    unittest.main()
