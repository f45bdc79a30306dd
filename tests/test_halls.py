"""Promises 1 and 2: of what a hall is made."""

import unittest

from ticketwrap.errors import InvalidHall
from ticketwrap.halls import Hall

NO_INTEGERS = (True, False, None, "", "3", "a", (), (3,), [], [3])


class TestMaking(unittest.TestCase):
    def assert_parts(self, *parts):
        hall = Hall(*parts)
        self.assertEqual((hall.modulus, hall.takes, hall.calls, hall.lateness), parts)

    def test_ordinary(self):
        self.assert_parts(3, (2, 0), (1,), 2)

    def test_keywords(self):
        hall = Hall(modulus=3, takes=(2, 0), calls=(1,), lateness=2)
        self.assertEqual((hall.modulus, hall.takes, hall.calls, hall.lateness), (3, (2, 0), (1,), 2))

    def test_attributes_are_set_on_the_object(self):
        for name in ("modulus", "takes", "calls", "lateness"):
            self.assertIn(name, vars(Hall(3, (2, 0), (1,), 2)))

    def test_smallest(self):
        self.assert_parts(2, (0,), (0,), 0)

    def test_largest(self):
        self.assert_parts(10000, (9,) * 12, (9,) * 12, 99)

    def test_each_length_of_a_pattern(self):
        for length in range(1, 13):
            with self.subTest(length=length):
                self.assert_parts(2, (4,) * length, (9,), 0)
                self.assert_parts(2, (4,), (9,) * length, 0)

    def test_each_item_of_a_pattern(self):
        for item in range(10):
            self.assert_parts(2, (item,), (0, item), 0)

    def test_period(self):
        for takes, calls, period in ((1, 1, 1), (2, 1, 2), (2, 4, 4), (4, 6, 12), (12, 12, 12), (12, 11, 132),
                                     (8, 12, 24), (5, 7, 35)):
            with self.subTest(takes=takes, calls=calls):
                self.assertEqual(Hall(2, (1,) * takes, (1,) * calls, 0).period, period)


class TestInvalidHall(unittest.TestCase):
    def assert_invalid(self, parts, part, index=0):
        with self.subTest(parts=parts):
            with self.assertRaises(InvalidHall) as caught:
                Hall(*parts)
            self.assertEqual((caught.exception.part, caught.exception.index), (part, index))
            self.assertIs(type(caught.exception.index), int)

    def assert_invalid_pattern(self, pattern, index):
        self.assert_invalid((3, pattern, (1,), 2), "takes", index)
        self.assert_invalid((3, (2, 0), pattern, 2), "calls", index)

    def test_modulus(self):
        for modulus in (1, 0, -1, -3, 10001, 10 ** 30) + NO_INTEGERS:
            self.assert_invalid((modulus, (2, 0), (1,), 2), "modulus")

    def test_lateness(self):
        for lateness in (-1, 100, 10 ** 30, -10 ** 30) + NO_INTEGERS:
            self.assert_invalid((3, (2, 0), (1,), lateness), "lateness")

    def test_no_pattern(self):
        for pattern in ((), [], [1], [1, 20], 1, 0, True, False, None, "", "1", "12", [(1,)]):
            self.assert_invalid_pattern(pattern, 0)

    def test_items_out_of_range(self):
        for item in (-1, 10, 10 ** 30, -10 ** 30):
            self.assert_invalid_pattern((item,), 0)
            self.assert_invalid_pattern((1, item), 1)
            self.assert_invalid_pattern((0, 9, item, item), 2)
            self.assert_invalid_pattern((5,) * 11 + (item,), 11)

    def test_items_of_other_kinds(self):
        for item in NO_INTEGERS:
            self.assert_invalid_pattern((item,), 0)
            self.assert_invalid_pattern((1, 2, 3, item, 10), 3)

    def test_thirteenth_item(self):
        self.assert_invalid_pattern((1,) * 13, 12)
        self.assert_invalid_pattern((1,) * 40, 12)
        self.assert_invalid_pattern((1,) * 12 + (10,), 12)
        self.assert_invalid_pattern((1,) * 13 + (10,), 12)

    def test_first_of_several_invalid_items(self):
        self.assert_invalid_pattern((1,) * 11 + (10, 1, 1), 11)
        self.assert_invalid_pattern((1, 10) + (1,) * 30, 1)
        self.assert_invalid_pattern((1, True, -1, 10), 1)

    def test_parts_are_checked_from_left_to_right(self):
        self.assert_invalid((1, (10,), (10,), 100), "modulus")
        self.assert_invalid((2, (1, 10), (10,), 100), "takes", 1)
        self.assert_invalid((2, (1,), (1, 1, 10), 100), "calls", 2)
        self.assert_invalid((2, (1,), (1,), 100), "lateness")
        self.assert_invalid((2, (1,), (), 100), "calls")
        self.assert_invalid((2, (), (), 100), "takes")
        self.assert_invalid((None, None, None, None), "modulus")

    def test_wrong_arguments_are_not_modified(self):
        takes = [1, 2]
        with self.assertRaises(InvalidHall):
            Hall(2, takes, takes, 0)
        self.assertEqual(takes, [1, 2])


if __name__ == "__main__":
    unittest.main()
