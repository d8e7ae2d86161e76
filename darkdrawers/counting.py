"""Counting: in how many ways things can be taken, and the draws of a plan one by one."""

from math import comb

from darkdrawers.bounds import SMALL_THINGS
from darkdrawers.errors import TooLarge
from darkdrawers.stocks import sizes_of, totals_of
from darkdrawers.wishes import fulfilled_by


def count_draws(stock, plan):
    """The number of choices of the plan, in which the things are told apart."""
    return count_choices(sizes_of(stock), plan)


def count_lucky(stock, collections, plan):
    """The number of choices of the plan whose things fulfil the wish."""
    if sum(sizes_of(stock)) > SMALL_THINGS:
        raise TooLarge(SMALL_THINGS)
    lucky = 0
    for draw in each_draw(stock, plan):
        if fulfilled_by(collections, totals_of(draw)) is not None:
            lucky += count_choices_of_draw(stock, draw)
    return lucky


def count_choices_of_draw(stock, draw):
    """The number of choices that have the counts of the draw."""
    choices = 1
    for drawer, counts in zip(stock, draw):
        choices *= count_choices(drawer, counts)
    return choices


def count_choices(numbers, taken):
    """In how many ways so many things are taken of each of these numbers of things."""
    choices = 1
    for number, few in zip(numbers, taken):
        # comb raises an error for numbers below 0, but there is just no such choice.
        choices *= comb(number, few) if 0 <= few <= number else 0
    return choices


def each_draw(stock, plan):
    """Yields the draws of the plan in ascending order."""
    if not stock:
        yield ()
        return
    drawer = stock[0]
    number = plan[0]
    later = stock[1:]
    numbers = plan[1:]
    for counts in each_counts(drawer, number):
        for draw in each_draw(later, numbers):
            yield (counts, *draw)


def each_counts(drawer, number):
    """Yields the counts of so many things from the drawer in ascending order."""
    if not drawer:
        yield ()
        return
    others = drawer[1:]
    # The other kinds must suffice for what is left, so that each loop yields at once.
    fewest = max(0, number - sum(others))
    for count in range(fewest, min(drawer[0], number) + 1):
        left = number - count
        for counts in each_counts(others, left):
            yield (count, *counts)
