"""Points 9, 103, 104 and 106: what one program has sent and was told."""

import unittest

from sillwatch.octets.messages import encode_message
from sillwatch.server.mailbox import Mailbox


def message(size, number=5, opcode=6):
    """Return the octets of a message of a size."""
    return [number, 0, 0, 0, opcode, 0, size & 255, size >> 8] + [at % 251 for at in range(size - 8)]


class MailboxTest(unittest.TestCase):
    def setUp(self):
        self.mailbox = Mailbox()


class Queue(MailboxTest):
    def test_nothing(self):
        self.assertIsNone(self.mailbox.cost())
        self.assertIs(self.mailbox.is_bad(), False)
        self.assertEqual(self.mailbox.queued(), 0)

    def test_how_much(self):
        self.assertEqual(self.mailbox.put([0] * 16383), 16383)
        self.assertEqual(self.mailbox.put([1, 2]), 1)
        self.assertEqual(self.mailbox.put([3]), 0)
        self.assertEqual(self.mailbox.put([]), 0)
        self.assertEqual(self.mailbox.queued(), 16384)
        self.setUp()
        self.assertEqual(self.mailbox.put([0] * 20000), 16384)

    def test_the_first_octets_are_taken(self):
        self.mailbox.put([0] * 16376)
        octets = message(8) + [99]
        self.assertEqual(self.mailbox.put(octets), 8)
        self.assertEqual(octets, message(8) + [99])

    def test_room_behind_a_message(self):
        self.mailbox.put(message(8) + [0] * 16376)
        self.assertEqual(self.mailbox.put([7]), 0)
        self.mailbox.take()
        self.assertEqual(self.mailbox.put([7] * 10), 8)

    def test_portions(self):
        octets = message(12) + message(8, 9, 258) + message(20)
        expected = [(5, 6, octets[8:12]), (9, 258, []), (5, 6, octets[28:40])]
        octets[16:18] = [2, 1]
        for size in (1, 3, 7, 8, 13, 40):
            self.setUp()
            found = []
            for begin in range(0, len(octets), size):
                self.mailbox.put(octets[begin:begin + size])
                while self.mailbox.cost() is not None:
                    found.append(self.mailbox.take())
                self.assertIs(self.mailbox.is_bad(), False)
            self.assertEqual(found, expected)
            self.assertEqual(self.mailbox.queued(), 0)

    def test_take(self):
        octets = encode_message(2 ** 32 - 1, 65535, [("uint", 7)])
        self.mailbox.put(octets + [1, 2, 3])
        self.assertEqual(self.mailbox.take(), (2 ** 32 - 1, 65535, [7, 0, 0, 0]))
        self.assertEqual(self.mailbox.queued(), 3)

    def test_costs(self):
        for size, cost in [(8, 2), (12, 2), (252, 2), (256, 2), (260, 3), (512, 3), (516, 4), (1024, 5), (16128, 64), (16132, 65), (16384, 65)]:
            self.setUp()
            self.mailbox.put(message(size))
            self.assertEqual(self.mailbox.cost(), cost, size)
            self.mailbox.take()
            self.assertIsNone(self.mailbox.cost())

    def test_the_message_at_the_front_costs(self):
        self.mailbox.put(message(260) + message(8))
        self.assertEqual((self.mailbox.cost(), self.mailbox.cost()), (3, 3))
        self.mailbox.take()
        self.assertEqual(self.mailbox.cost(), 2)

    def test_no_whole_message(self):
        for size in (8, 256, 16384):
            self.setUp()
            self.mailbox.put(message(size)[:-1])
            self.assertIsNone(self.mailbox.cost())
            self.assertIs(self.mailbox.is_bad(), False)

    def test_a_message_for_which_there_is_never_room(self):
        self.mailbox.put(message(20480))
        self.assertEqual(self.mailbox.queued(), 16384)
        self.assertIsNone(self.mailbox.cost())
        self.assertIs(self.mailbox.is_bad(), False)

    def test_bad(self):
        for size in (0, 4, 7, 9, 10, 11, 257, 20481, 20484, 65535):
            self.setUp()
            self.mailbox.put(message(max(size, 8))[:6] + [size & 255, size >> 8])
            self.assertIs(self.mailbox.is_bad(), True, size)
            self.assertIsNone(self.mailbox.cost())
            self.mailbox.put([0] * 300)
            self.assertIs(self.mailbox.is_bad(), True)
            self.assertIsNone(self.mailbox.cost())

    def test_bad_behind_messages(self):
        self.mailbox.put(message(8) + message(9))
        self.assertIs(self.mailbox.is_bad(), False)
        self.assertEqual(self.mailbox.cost(), 2)
        self.mailbox.take()
        self.assertIs(self.mailbox.is_bad(), True)

    def test_less_than_a_header_is_not_bad(self):
        self.mailbox.put([1, 0, 0, 0, 0, 0, 3])
        self.assertIs(self.mailbox.is_bad(), False)

    def test_closed(self):
        self.mailbox.put(message(8) + [1])
        self.mailbox.tell([1, 2])
        self.mailbox.close()
        self.assertIsNone(self.mailbox.cost())
        self.assertEqual((self.mailbox.queued(), self.mailbox.unread()), (0, 1))
        self.mailbox.put(message(9))
        self.mailbox.close()
        self.assertIs(self.mailbox.is_bad(), False)


class Unread(MailboxTest):
    def test_nothing(self):
        self.assertEqual(self.mailbox.read(100), [])
        self.assertIs(self.mailbox.is_slow(), False)

    def test_whole_and_in_order(self):
        for octets in ([1] * 8, [2] * 12, [3] * 8):
            self.mailbox.tell(octets)
        self.assertEqual(self.mailbox.unread(), 3)
        self.assertEqual(self.mailbox.read(0), [])
        self.assertEqual(self.mailbox.read(7), [])
        self.assertEqual(self.mailbox.read(19), [1] * 8)
        # The next one does not fit, so one behind it that would is not read.
        self.assertEqual(self.mailbox.read(11), [])
        self.assertEqual(self.mailbox.read(12), [2] * 12)
        self.assertEqual(self.mailbox.read(9999), [3] * 8)
        self.assertEqual((self.mailbox.read(9999), self.mailbox.unread()), ([], 0))

    def test_all_at_once(self):
        self.mailbox.tell([1] * 8)
        self.mailbox.tell([2] * 12)
        self.assertEqual(self.mailbox.read(20), [1] * 8 + [2] * 12)

    def test_what_is_told_stays_as_it_was(self):
        octets = [1] * 8
        self.mailbox.tell(octets)
        octets[0] = 2
        self.assertEqual(self.mailbox.read(8), [1] * 8)

    def test_too_many_messages(self):
        for _ in range(1024):
            self.mailbox.tell([0] * 8)
        self.assertIs(self.mailbox.is_slow(), False)
        self.mailbox.tell([0] * 8)
        self.assertIs(self.mailbox.is_slow(), True)
        self.mailbox.read(8)
        self.assertIs(self.mailbox.is_slow(), False)

    def test_too_many_octets(self):
        for _ in range(4):
            self.mailbox.tell([0] * 16384)
        self.assertIs(self.mailbox.is_slow(), False)
        self.mailbox.tell([0] * 8)
        self.assertIs(self.mailbox.is_slow(), True)
        self.mailbox.read(16384)
        self.assertIs(self.mailbox.is_slow(), False)


if __name__ == "__main__":
    unittest.main()
