"""Point 14: the numbers of objects."""

import unittest

from sillwatch.objects.owned import Objects

LAST_GIVEN = 4278190079
FIRST_MADE = 4278190080


class Owned(unittest.TestCase):
    def setUp(self):
        self.objects = Objects()

    def test_new(self):
        self.assertEqual(self.objects.numbers(), [1])
        self.assertEqual(self.objects.interface_of(1), "display")
        for number in [0, 2, LAST_GIVEN, FIRST_MADE]:
            self.assertIsNone(self.objects.interface_of(number))
        self.assertIs(self.objects.is_full(), False)

    def test_numbers_that_may_be_given(self):
        for number in [2, 3, 2 ** 31, LAST_GIVEN - 1, LAST_GIVEN]:
            self.assertIs(self.objects.may_give(number), True)
        for number in [0, 1, FIRST_MADE, FIRST_MADE + 1, 2 ** 32 - 1]:
            self.assertIs(self.objects.may_give(number), False)

    def test_given(self):
        for number, interface in [(2, "surface"), (LAST_GIVEN, "window"), (50, "callback")]:
            self.objects.give(number, interface)
            self.assertEqual(self.objects.interface_of(number), interface)
            self.assertIs(self.objects.may_give(number), False)
        self.assertIs(self.objects.may_give(3), True)
        self.assertEqual(self.objects.numbers(), [1, 2, LAST_GIVEN, 50])

    def test_made(self):
        self.assertEqual(self.objects.make("offer"), FIRST_MADE)
        self.assertEqual(self.objects.make("offer"), FIRST_MADE + 1)
        self.assertEqual(self.objects.interface_of(FIRST_MADE), "offer")
        self.assertIsNone(self.objects.interface_of(FIRST_MADE + 2))
        self.assertIs(self.objects.may_give(FIRST_MADE), False)

    def test_made_numbers_are_given_once(self):
        self.objects.make("offer")
        self.objects.make("offer")
        self.objects.end(FIRST_MADE)
        self.objects.end(FIRST_MADE + 1)
        self.assertEqual(self.objects.make("offer"), FIRST_MADE + 2)
        self.assertIsNone(self.objects.interface_of(FIRST_MADE))
        self.assertIs(self.objects.may_give(FIRST_MADE), False)

    def test_what_end_returns(self):
        for number in [2, 77, LAST_GIVEN]:
            self.objects.give(number, "surface")
            self.assertIs(self.objects.end(number), True)
        for number in [FIRST_MADE, FIRST_MADE + 1]:
            self.assertEqual(self.objects.make("offer"), number)
            self.assertIs(self.objects.end(number), False)

    def test_a_number_is_free_again(self):
        self.objects.give(2, "surface")
        self.objects.give(3, "region")
        self.objects.end(2)
        self.assertIsNone(self.objects.interface_of(2))
        self.assertIs(self.objects.may_give(2), True)
        self.assertEqual(self.objects.numbers(), [1, 3])
        self.objects.give(2, "buffer")
        self.assertEqual(self.objects.interface_of(2), "buffer")
        self.assertEqual(self.objects.numbers(), [1, 3, 2])

    def test_order(self):
        self.objects.give(9, "surface")
        self.objects.make("offer")
        self.objects.give(5, "surface")
        self.objects.make("offer")
        self.assertEqual(self.objects.numbers(), [1, 9, FIRST_MADE, 5, FIRST_MADE + 1])

    def test_full(self):
        # The display and those that the server made count.
        self.objects.make("offer")
        for number in range(2, 511):
            self.objects.give(number, "callback")
        self.assertEqual(len(self.objects.numbers()), 511)
        self.assertIs(self.objects.is_full(), False)
        self.objects.give(600, "callback")
        self.assertEqual(len(self.objects.numbers()), 512)
        self.assertIs(self.objects.is_full(), True)
        self.assertIs(self.objects.may_give(601), True)
        self.objects.end(FIRST_MADE)
        self.assertIs(self.objects.is_full(), False)
        self.objects.make("offer")
        self.assertIs(self.objects.is_full(), True)

    def test_the_list_is_new(self):
        self.objects.numbers().append(7)
        self.assertEqual(self.objects.numbers(), [1])
        self.assertEqual(Objects().numbers(), [1])

    def test_programs_are_apart(self):
        other = Objects()
        self.objects.give(2, "surface")
        self.objects.make("offer")
        self.assertEqual(other.numbers(), [1])
        self.assertEqual(other.make("offer"), FIRST_MADE)


if __name__ == "__main__":
    unittest.main()
