"""Point 15, as far as replies go: what comes of a request."""

import unittest

from sillwatch.objects.replies import Reply
from sillwatch.objects.tables import event_octets


class Replies(unittest.TestCase):
    def test_new(self):
        reply = Reply()
        self.assertEqual((reply.told, reply.ended, reply.wishes, reply.applied), ([], [], [], []))

    def test_told(self):
        reply = Reply()
        values = [1, "memory"]
        reply.tell(9, "registry", "there", values)
        reply.tell(2, "callback", "done", [7])
        reply.tell(9, "registry", "there", [2, "x"])
        self.assertEqual(reply.told, [
            event_octets(9, "registry", "there", [1, "memory"]),
            [2, 0, 0, 0, 0, 0, 12, 0, 7, 0, 0, 0],
            event_octets(9, "registry", "there", [2, "x"]),
        ])
        self.assertEqual(values, [1, "memory"])
        self.assertEqual((reply.ended, reply.wishes, reply.applied), ([], [], []))

    def test_ended(self):
        reply = Reply()
        for number in [9, 3, 7]:
            reply.end(number)
        self.assertEqual(reply.ended, [9, 3, 7])
        self.assertEqual((reply.told, reply.wishes, reply.applied), ([], [], []))

    def test_wishes(self):
        reply = Reply()
        goods = [("text", [1, 2])]
        reply.wish(("spend",))
        reply.wish(("give", goods, True))
        reply.wish(("spend",))
        self.assertEqual(reply.wishes, [("spend",), ("give", [("text", [1, 2])], True), ("spend",)])
        self.assertEqual((reply.told, reply.ended, reply.applied), ([], [], []))
        self.assertEqual(goods, [("text", [1, 2])])

    def test_all_in_turn(self):
        reply = Reply()
        reply.wish(("raise", 4))
        reply.end(5)
        reply.tell(6, "buffer", "release", [])
        reply.end(2)
        reply.wish(("unmap", 1))
        reply.tell(6, "buffer", "release", [])
        self.assertEqual(reply.told, [[6, 0, 0, 0, 0, 0, 8, 0]] * 2)
        self.assertEqual(reply.ended, [5, 2])
        self.assertEqual(reply.wishes, [("raise", 4), ("unmap", 1)])

    def test_replies_have_nothing_in_common(self):
        one, other = Reply(), Reply()
        one.tell(6, "buffer", "release", [])
        one.end(5)
        one.wish(("spend",))
        one.applied.append(3)
        self.assertEqual((other.told, other.ended, other.wishes, other.applied), ([], [], [], []))
        newer = Reply()
        self.assertEqual((newer.told, newer.ended, newer.wishes, newer.applied), ([], [], [], []))


if __name__ == "__main__":
    unittest.main()
