import unittest

from darkdrawers.checks import (
    are_numbers, are_numbers_up_to, is_number, is_number_up_to, is_positive_up_to, is_tuple_of)
from tests.samples import STRANGE_VALUES


class ChecksTest(unittest.TestCase):
    def test_a_number_is_an_int_that_is_not_a_bool(self):
        for value in STRANGE_VALUES:
            with self.subTest(value=value):
                self.assertIs(is_number(value), type(value) is int)

    def test_a_number_up_to_a_limit(self):
        for value, answer in [(-1, False), (0, True), (7, True), (8, False), (10 ** 39, False),
                              (False, False), (True, False), (None, False), ("1", False)]:
            with self.subTest(value=value):
                self.assertIs(is_number_up_to(value, 7), answer)

    def test_a_number_from_1_to_a_limit(self):
        for value, answer in [(-1, False), (0, False), (1, True), (7, True), (8, False),
                              (10 ** 39, False), (False, False), (True, False), (None, False),
                              ("1", False), ((1,), False)]:
            with self.subTest(value=value):
                self.assertIs(is_positive_up_to(value, 7), answer)

    def test_a_tuple_of_so_many_items(self):
        for value, answer in [((), False), ((None,), True), ((1, 2), True), ((1, 2, 3), False),
                              ([1], False), ("a", False), ({"a": 1}, False), (None, False)]:
            with self.subTest(value=value):
                self.assertIs(is_tuple_of(value, 1, 2), answer)

    def test_a_tuple_of_numbers(self):
        for value, answer in [((), False), ((0,), True), ((9, 0), True), ((0, 0, 0), False),
                              ((10,), False), ((-1,), False), ((1, True), False), ([1], False),
                              ((0, False), False), ((None,), False), (("1",), False), (1, False)]:
            with self.subTest(value=value):
                self.assertIs(are_numbers(value, 1, 2, 9), answer)

    def test_a_tuple_of_numbers_up_to_their_limits(self):
        for value, answer in [((0, 0), True), ((2, 5), True), ((3, 0), False), ((0, 6), False),
                              ((-1, 5), False), ((5, 2), False), ((2,), False), ((), False),
                              ((2, 5, 0), False), ([2, 5], False), ((True, 5), False),
                              ((0, False), False), ((2, "5"), False), (None, False), (2, False)]:
            with self.subTest(value=value):
                self.assertIs(are_numbers_up_to(value, (2, 5)), answer)

    def test_numbers_then_bools_then_numbers_again(self):
        for value, answer in [((0, 1), True), ((False, True), False), ((0, 1), True)]:
            self.assertIs(are_numbers(value, 2, 2, 1), answer)
        for value, answer in [(1, True), (True, False), (1, True), (0, True), (False, False)]:
            self.assertIs(is_number(value), answer)


if __name__ == "__main__":
    unittest.main()
