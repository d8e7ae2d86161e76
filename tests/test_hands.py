import unittest

from darkdrawers.bounds import LIMIT
from darkdrawers.errors import BadMost, TooFull
from darkdrawers.hands import Hand
from tests.samples import STRANGE_VALUES, check_raises, shape, with_one_part_replaced

# Values that are not a number from 0 to LIMIT.
WRONG_NUMBERS = [
    value for value in STRANGE_VALUES if type(value) is not int or not 0 <= value <= LIMIT
] + [-1, LIMIT + 1, 2 * LIMIT, (3,), ((),), "3", [3], {"3": 3}, Hand(3)]


class HandTest(unittest.TestCase):
    def test_example(self):
        hand = Hand(10)
        self.assertEqual([hand.most, hand.free(4)], [10, 6])

    def test_most(self):
        for most in (0, 1, 2, 50, 51, LIMIT - 1, LIMIT):
            self.assertEqual(shape(Hand(most).most), shape(most))

    def test_wrong_most(self):
        for value in WRONG_NUMBERS:
            with self.subTest(value=value):
                check_raises(self, BadMost(value), Hand, value)

    def test_true_and_false_are_no_numbers(self):
        for value in (True, False):
            check_raises(self, BadMost(value), Hand, value)
            check_raises(self, BadMost(value), Hand(5).free, value)

    def test_nothing_some_and_exactly_most(self):
        for most in (0, 1, 7, LIMIT):
            hand = Hand(most)
            for number in {0, min(1, most), most // 2, most}:
                self.assertEqual(shape(hand.free(number)), shape(most - number))

    def test_too_full_from_one_more_on(self):
        for most in (0, 1, 7, LIMIT - 1):
            for number in {most + 1, LIMIT}:
                check_raises(self, TooFull(number), Hand(most).free, number)

    def test_wrong_numbers_come_before_too_full(self):
        for most in (0, 7, LIMIT):
            hand = Hand(most)
            for value in WRONG_NUMBERS:
                with self.subTest(most=most, value=value):
                    check_raises(self, BadMost(value), hand.free, value)

    def test_numbers_with_something_else_in_their_place(self):
        for value in with_one_part_replaced(3):
            if type(value) is int and 0 <= value <= LIMIT:
                self.assertEqual(Hand(LIMIT).free(value), LIMIT - value)
            else:
                check_raises(self, BadMost(value), Hand(LIMIT).free, value)

    def test_each_number_of_a_small_hand(self):
        hand = Hand(4)
        for _ in range(2):
            for number in range(-2, 9):
                if 0 <= number <= 4:
                    self.assertEqual(hand.free(number), 4 - number)
                else:
                    error = BadMost(number) if number < 0 else TooFull(number)
                    check_raises(self, error, hand.free, number)
                self.assertEqual(hand.most, 4)

    def test_hands_do_not_disturb_one_another(self):
        hands = [Hand(most) for most in (3, 0, LIMIT, 3)]
        check_raises(self, TooFull(4), hands[0].free, 4)
        check_raises(self, BadMost(None), Hand, None)
        self.assertEqual([hand.most for hand in hands], [3, 0, LIMIT, 3])
        self.assertEqual([hand.free(0) for hand in hands], [3, 0, LIMIT, 3])


if __name__ == "__main__":
    unittest.main()
