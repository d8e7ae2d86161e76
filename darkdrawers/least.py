"""Least plans: the sure plans from which nothing can be left out, and the cheapest of them."""

from darkdrawers.bounds import SMALL_PLANS
from darkdrawers.errors import TooLarge
from darkdrawers.plans import room_in, sets_of_drawers
from darkdrawers.stocks import sizes_of, with_item
from darkdrawers.wishes import caps_of, spoilings_of


def least_plans(stock, collections):
    """The ascending tuple of all least sure plans."""
    if number_of_plans(stock) > SMALL_PLANS:
        raise TooLarge(SMALL_PLANS)
    sets = sets_of_drawers(stock)
    rooms = rooms_of(stock, collections, sets)
    sure = {}
    least = []
    # In ascending order a plan comes after all those that it is above.
    for plan in plans_of(stock):
        if any([lower in sure for lower in plans_one_below(plan)]):
            sure[plan] = True
        elif is_excluded(rooms, [sum([plan[drawer] for drawer in drawers]) for drawers in sets]):
            sure[plan] = True
            least.append(plan)
    return tuple(least)


def number_of_plans(stock):
    """How many plans there are for the stock."""
    number = 1
    for size in sizes_of(stock):
        number *= size + 1
    return number


def plans_of(stock):
    """All plans for the stock in ascending order."""
    plans = [()]
    for size in sizes_of(stock):
        plans = [(*plan, number) for plan in plans for number in range(size + 1)]
    return plans


def plans_one_below(plan):
    """The plans that take one thing less."""
    return [with_item(plan, drawer, number - 1) for drawer, number in enumerate(plan) if number > 0]


def rooms_of(stock, collections, sets):
    """The rooms of these sets of drawers for each spoiling, where several have the same only once."""
    rooms = {}
    for spoiling in spoilings_of(collections):
        caps = caps_of(collections, spoiling)
        rooms[tuple([room_in(stock, caps, drawers) for drawers in sets])] = True
    return list(rooms)


def is_excluded(rooms, taken):
    """Whether each spoiling has a set of drawers from which more is taken than its room."""
    for row in rooms:
        if not any([number > room for number, room in zip(taken, row)]):
            return False
    return True


def cheapest_plan(stock, collections, prices):
    """The smallest of the sure plans that cost least, or None."""
    # What costs least is least itself, or is above a least plan that costs no more and is smaller.
    plans = [(cost_of(plan, prices), plan) for plan in least_plans(stock, collections)]
    if not plans:
        return None
    _, plan = min(plans)
    return plan


def cost_of(plan, prices):
    """What the things of the plan cost."""
    return sum([number * price for number, price in zip(plan, prices)])
