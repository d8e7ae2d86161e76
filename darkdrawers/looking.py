"""Looking: how many things are enough if each one is seen before the next one is taken."""

from darkdrawers.bounds import SMALL_THINGS
from darkdrawers.errors import TooLarge
from darkdrawers.stocks import sizes_of, totals_of, with_item, with_more
from darkdrawers.wishes import fulfilled_by


def looking_number(stock, collections):
    """The least number of things that is enough with looking, or None."""
    check_small(stock)
    if fulfilled_by(collections, totals_of(stock)) is None:
        return None
    return number_after(stock, collections, (0,) * len(stock[0]), {})


def next_drawer(stock, collections, counts):
    """The smallest drawer from which to take next after these counts, or None."""
    check_small(stock)
    if fulfilled_by(collections, counts) is not None:
        return None
    if fulfilled_by(collections, totals_of((*stock, counts))) is None:
        return None
    known = {}
    numbers = [(number_from(stock, collections, counts, drawer, known), drawer)
               for drawer in drawers_with_things(stock)]
    _, best = min(numbers)
    return best


def check_small(stock):
    """Raises an error if there are too many things in the stock to try everything."""
    if sum(sizes_of(stock)) > SMALL_THINGS:
        raise TooLarge(SMALL_THINGS)


def number_after(stock, collections, counts, known):
    """How many things of the stock are enough after these counts; all of them must be enough.

    known keeps the numbers that were found; the counts need not be told there, because what is no
    longer in the stock is in them.
    """
    if fulfilled_by(collections, counts) is not None:
        return 0
    if stock not in known:
        known[stock] = min([number_from(stock, collections, counts, drawer, known)
                            for drawer in drawers_with_things(stock)])
    return known[stock]


def number_from(stock, collections, counts, drawer, known):
    """How many things are enough if the next one is from this drawer, whatever it is."""
    numbers = []
    for kind, things in enumerate(stock[drawer]):
        if things > 0:
            left = with_more(stock, drawer, kind, -1)
            taken = with_item(counts, kind, counts[kind] + 1)
            numbers.append(number_after(left, collections, taken, known))
    return 1 + max(numbers)


def drawers_with_things(stock):
    """The drawers that are not empty."""
    return [drawer for drawer, size in enumerate(sizes_of(stock)) if size > 0]
