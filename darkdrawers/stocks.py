"""Stocks: how many things of each kind are in each drawer."""

from darkdrawers.bounds import MAX_COUNT, MAX_DRAWERS, MAX_KINDS
from darkdrawers.checks import are_numbers, is_tuple_of
from darkdrawers.errors import TooMuch


def is_stock(value):
    """Whether the value is a stock."""
    return stock_error(value) is None


def stock_error(value):
    """The first fault of the value as (index, part), or None if it is a stock."""
    if not is_tuple_of(value, 1, MAX_DRAWERS):
        return (None, "stock")
    if not are_numbers(value[0], 1, MAX_KINDS, MAX_COUNT):
        return (0, "drawer")
    kinds = len(value[0])
    for index, drawer in enumerate(value[1:], start=1):
        if not are_numbers(drawer, kinds, kinds, MAX_COUNT):
            return (index, "drawer")
    return None


def totals_of(stock):
    """The number of things of each kind in all drawers."""
    return tuple([sum(counts) for counts in zip(*stock)])


def sizes_of(stock):
    """The number of things in each drawer."""
    return tuple([sum(drawer) for drawer in stock])


def merged(stock, *drawers):
    """The stock in which the first of these drawers has the things of all of them."""
    totals = totals_of([stock[drawer] for drawer in drawers])
    for total in totals:
        if total > MAX_COUNT:
            raise TooMuch(total)
    left = []
    for index, drawer in enumerate(stock):
        if index == drawers[0]:
            left.append(totals)
        elif index not in drawers:
            left.append(drawer)
    return tuple(left)


def with_more(stock, drawer, kind, count):
    """The stock with so many more things of the kind in the drawer, or fewer for a count below 0."""
    return with_item(stock, drawer, with_item(stock[drawer], kind, stock[drawer][kind] + count))


def with_item(row, at, item):
    """The tuple with this item at this place instead of its own."""
    return row[:at] + (item,) + row[at + 1:]
