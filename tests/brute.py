"""Answers found another way than the package finds them: by its definitions, trying everything."""

import itertools
import math


def kinds_of(collections):
    return range(len(collections[0]))


def numbers_up_to(limits):
    """All tuples with a number from 0 to the limit for each of the limits, ascending."""
    return list(itertools.product(*[range(limit + 1) for limit in limits]))


def plans_of(stock):
    return numbers_up_to([sum(drawer) for drawer in stock])


def draws_of(stock, plan):
    by_drawer = [
        [counts for counts in numbers_up_to(drawer) if sum(counts) == number]
        for drawer, number in zip(stock, plan)]
    return list(itertools.product(*by_drawer))


def added(rows, kinds):
    """The sum of the rows for each kind."""
    return tuple(sum(row[kind] for row in rows) for kind in kinds)


def first_fulfilled(collections, counts):
    for index in range(len(collections)):
        if not [kind for kind in kinds_of(collections) if counts[kind] < collections[index][kind]]:
            return index
    return None


def is_unlucky(collections, draw):
    return first_fulfilled(collections, added(draw, kinds_of(collections))) is None


def unlucky_draws(stock, collections, plan):
    return [draw for draw in draws_of(stock, plan) if is_unlucky(collections, draw)]


def sure_plans(stock, collections):
    """The plans that have no unlucky draw, as a dict of True and False."""
    return {plan: not unlucky_draws(stock, collections, plan) for plan in plans_of(stock)}


def sure_total(stock, collections):
    if is_unlucky(collections, stock):
        return None
    sure = sure_plans(stock, collections)
    number = 0
    while not all(sure[plan] for plan in sure if sum(plan) >= number):
        number += 1
    return number


def sure_number(stock, collections, drawer):
    for number in range(sum(stock[drawer]) + 1):
        plan = tuple(number if index == drawer else 0 for index in range(len(stock)))
        if not unlucky_draws(stock, collections, plan):
            return number
    return None


def spoilings_of(collections):
    choices = itertools.product(kinds_of(collections), repeat=len(collections))
    return sorted(
        choice for choice in choices
        if all(collection[kind] for collection, kind in zip(collections, choice)))


def caps_of(collections, spoiling):
    caps = [None for _ in kinds_of(collections)]
    for collection, kind in zip(collections, spoiling):
        if caps[kind] is None or collection[kind] - 1 < caps[kind]:
            caps[kind] = collection[kind] - 1
    return tuple(caps)


def sets_of_drawers(stock):
    drawers = range(len(stock))
    return [chosen for many in range(len(stock) + 1)
            for chosen in itertools.combinations(drawers, many)]


def room_in(stock, caps, drawers):
    room = 0
    for kind, cap in enumerate(caps):
        things = 0
        for drawer in drawers:
            things += stock[drawer][kind]
        room += things if cap is None or things <= cap else cap
    return room


def rooms_of(stock, collections):
    """The table of rooms: for each spoiling a dict of the room of each set of drawers."""
    return [
        {drawers: room_in(stock, caps_of(collections, spoiling), drawers)
         for drawers in sets_of_drawers(stock)}
        for spoiling in spoilings_of(collections)]


def excluding_sets(rooms, plan):
    """For each spoiling the sets of drawers that a table may name for it."""
    taken = {drawers: sum(plan[drawer] for drawer in drawers) for drawers in rooms[0]}
    return [[drawers for drawers, room in row.items() if taken[drawers] > room] for row in rooms]


def is_excluded(rooms, plan):
    return all(excluding_sets(rooms, plan))


def are_ints(value, length):
    return type(value) is tuple and len(value) == length and all(type(x) is int for x in value)


def is_draw(stock, plan, value):
    if type(value) is not tuple or len(value) != len(stock):
        return False
    for drawer, number, counts in zip(stock, plan, value):
        if not are_ints(counts, len(drawer)) or sum(counts) != number:
            return False
        if any(count < 0 or count > things for count, things in zip(counts, drawer)):
            return False
    return True


def holds(stock, collections, plan, value, rooms=None):
    """Whether the value is a certificate; rooms are those of rooms_of, if they are known."""
    if type(value) is not tuple or len(value) != 2 or type(value[0]) is not str:
        return False
    word, proof = value
    if word == "draw":
        return is_draw(stock, plan, proof) and is_unlucky(collections, proof)
    if word != "table" or type(proof) is not tuple:
        return False
    allowed = excluding_sets(rooms or rooms_of(stock, collections), plan)
    # The reprs tell (0, 1) from [0, 1] and from (False, True).
    return len(proof) == len(allowed) and all(
        repr(drawers) in [repr(other) for other in row] for drawers, row in zip(proof, allowed))


def choices_of(stock, plan):
    """Each choice of the plan, thing by thing, as the list of the kinds of its things."""
    by_drawer = []
    for drawer, number in zip(stock, plan):
        things = [kind for kind, many in enumerate(drawer) for _ in range(many)]
        by_drawer.append(list(itertools.combinations(things, number)))
    for parts in itertools.product(*by_drawer):
        yield [kind for part in parts for kind in part]


def count_draws(stock, plan):
    return sum(1 for _ in choices_of(stock, plan))


def count_lucky(stock, collections, plan):
    lucky = 0
    for choice in choices_of(stock, plan):
        counts = tuple(choice.count(kind) for kind in kinds_of(collections))
        if first_fulfilled(collections, counts) is not None:
            lucky += 1
    return lucky


def many_choices(stock, plan):
    """The number of choices for stocks that are too large to go through them."""
    number = 1
    for drawer, few in zip(stock, plan):
        size = sum(drawer)
        number *= math.factorial(size) // math.factorial(few) // math.factorial(size - few)
    return number


def room_of_all(stock, collections, spoiling):
    return room_in(stock, caps_of(collections, spoiling), range(len(stock)))


def sure_by_rooms(stock, collections):
    """What sure_total returns, by the greatest room, for stocks that are too large to try all."""
    if is_unlucky(collections, stock):
        return None
    return 1 + max(room_of_all(stock, collections, spoiling)
                   for spoiling in spoilings_of(collections))


def is_above(plan, other):
    return plan != other and all(more >= less for more, less in zip(plan, other))


def least_plans(stock, collections):
    """The least sure plans, from all draws of all plans and by comparing each with each."""
    sure = [plan for plan, answer in sure_plans(stock, collections).items() if answer]
    return tuple(sorted(
        plan for plan in sure if not any(is_above(plan, other) for other in sure)))


def cheapest_plan(stock, collections, prices):
    """The first in the order of tuples of all sure plans that cost least."""
    best = None
    for plan, answer in sorted(sure_plans(stock, collections).items()):
        cost = sum(number * price for number, price in zip(plan, prices))
        if answer and (best is None or cost < best[0]):
            best = (cost, plan)
    return best and best[1]


def steps_from(stock, drawer):
    """What may be taken from the drawer: (the stock after it, the kind of the thing)."""
    for kind in range(len(stock[drawer])):
        if stock[drawer][kind]:
            left = [list(counts) for counts in stock]
            left[drawer][kind] -= 1
            yield tuple(map(tuple, left)), kind


def one_more(counts, kind):
    return tuple(count + (at == kind) for at, count in enumerate(counts))


def is_enough(stock, collections, counts, number):
    """Whether so many further things are enough with looking, by trying all ways to choose."""
    if first_fulfilled(collections, counts) is not None:
        return True
    return number > 0 and any(
        is_enough_from(stock, collections, counts, number, drawer)
        for drawer in range(len(stock)))


def is_enough_from(stock, collections, counts, number, drawer):
    """The same if the first of these things is taken from this drawer."""
    steps = list(steps_from(stock, drawer))
    return bool(steps) and all(
        is_enough(left, collections, one_more(counts, kind), number - 1) for left, kind in steps)


def looking_number(stock, collections, counts):
    """The least number of further things that is enough with looking, or None."""
    for number in range(sum(map(sum, stock)) + 1):
        if is_enough(stock, collections, counts, number):
            return number
    return None


def next_drawer(stock, collections, counts):
    number = looking_number(stock, collections, counts)
    if not number:
        return None
    return min(drawer for drawer in range(len(stock))
               if is_enough_from(stock, collections, counts, number, drawer))


def looking_table(stock, collections):
    """The same numbers for greater stocks: for each rest of the stock, from the smallest on.

    Each row is (number, drawers): the least number of further things, or None if there is none,
    and the drawers from which to take next.
    """
    totals = added(stock, kinds_of(collections))
    table = {}
    for rest in itertools.product(*[numbers_up_to(drawer) for drawer in stock]):
        left = added(rest, kinds_of(collections))
        counts = tuple(total - few for total, few in zip(totals, left))
        numbers = {}
        for drawer in range(len(stock)):
            after = [table[step][0] for step, _ in steps_from(rest, drawer)]
            if after and None not in after:
                numbers[drawer] = 1 + max(after)
        if first_fulfilled(collections, counts) is not None:
            table[rest] = (0, [])
        elif numbers:
            least = min(numbers.values())
            table[rest] = (least, [drawer for drawer in numbers if numbers[drawer] == least])
        else:
            table[rest] = (None, [])
    return table
