"""Hands: they hold at most so many things."""

from darkdrawers.bounds import LIMIT
from darkdrawers.checks import is_number_up_to
from darkdrawers.errors import BadMost, TooFull


class Hand:
    """A hand that holds at most so many things."""

    def __init__(self, most):
        if not is_number_up_to(most, LIMIT):
            raise BadMost(most)
        self.most = most

    def free(self, number):
        """How many more things the hand can hold beside so many."""
        if not is_number_up_to(number, LIMIT):
            raise BadMost(number)
        if number > self.most:
            raise TooFull(number)
        return self.most - number
