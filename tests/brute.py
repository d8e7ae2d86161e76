"""Answers found another way than the package finds them: by its definitions, trying everything."""

import itertools
import math


def kinds_of(collections):
    return range(len(collections[0]))


def numbers_up_to(limits):
    """All tuples with a number from 0 to the limit for each of the limits, ascending."""
    return list(itertools.product(*[range(limit + 1) for limit in limits]))


def plans_of(stock):
    return numbers_up_to([sum(drawer) for drawer in stock])


def draws_of(stock, plan):
    by_drawer = [
        [counts for counts in numbers_up_to(drawer) if sum(counts) == number]
        for drawer, number in zip(stock, plan)]
    return list(itertools.product(*by_drawer))


def added(rows, kinds):
    """The sum of the rows for each kind."""
    return tuple(sum(row[kind] for row in rows) for kind in kinds)


def first_fulfilled(collections, counts):
    for index in range(len(collections)):
        if not [kind for kind in kinds_of(collections) if counts[kind] < collections[index][kind]]:
            return index
    return None


def is_unlucky(collections, draw):
    return first_fulfilled(collections, added(draw, kinds_of(collections))) is None


def unlucky_draws(stock, collections, plan):
    return [draw for draw in draws_of(stock, plan) if is_unlucky(collections, draw)]


def sure_plans(stock, collections):
    """The plans that have no unlucky draw, as a dict of True and False."""
    return {plan: not unlucky_draws(stock, collections, plan) for plan in plans_of(stock)}


def sure_total(stock, collections):
    if is_unlucky(collections, stock):
        return None
    sure = sure_plans(stock, collections)
    number = 0
    while not all(sure[plan] for plan in sure if sum(plan) >= number):
        number += 1
    return number


def sure_number(stock, collections, drawer):
    for number in range(sum(stock[drawer]) + 1):
        plan = tuple(number if index == drawer else 0 for index in range(len(stock)))
        if not unlucky_draws(stock, collections, plan):
            return number
    return None


def spoilings_of(collections):
    choices = itertools.product(kinds_of(collections), repeat=len(collections))
    return sorted(
        choice for choice in choices
        if all(collection[kind] for collection, kind in zip(collections, choice)))


def caps_of(collections, spoiling):
    caps = [None for _ in kinds_of(collections)]
    for collection, kind in zip(collections, spoiling):
        if caps[kind] is None or collection[kind] - 1 < caps[kind]:
            caps[kind] = collection[kind] - 1
    return tuple(caps)


def sets_of_drawers(stock):
    drawers = range(len(stock))
    return [chosen for many in range(len(stock) + 1)
            for chosen in itertools.combinations(drawers, many)]


def room_in(stock, caps, drawers):
    room = 0
    for kind, cap in enumerate(caps):
        things = 0
        for drawer in drawers:
            things += stock[drawer][kind]
        room += things if cap is None or things <= cap else cap
    return room


def rooms_of(stock, collections):
    """The table of rooms: for each spoiling a dict of the room of each set of drawers."""
    return [
        {drawers: room_in(stock, caps_of(collections, spoiling), drawers)
         for drawers in sets_of_drawers(stock)}
        for spoiling in spoilings_of(collections)]


def excluding_sets(rooms, plan):
    """For each spoiling the sets of drawers that a table may name for it."""
    taken = {drawers: sum(plan[drawer] for drawer in drawers) for drawers in rooms[0]}
    return [[drawers for drawers, room in row.items() if taken[drawers] > room] for row in rooms]


def is_excluded(rooms, plan):
    return all(excluding_sets(rooms, plan))


def are_ints(value, length):
    return type(value) is tuple and len(value) == length and all(type(x) is int for x in value)


def is_draw(stock, plan, value):
    if type(value) is not tuple or len(value) != len(stock):
        return False
    for drawer, number, counts in zip(stock, plan, value):
        if not are_ints(counts, len(drawer)) or sum(counts) != number:
            return False
        if any(count < 0 or count > things for count, things in zip(counts, drawer)):
            return False
    return True


def holds(stock, collections, plan, value, rooms=None):
    """Whether the value is a certificate; rooms are those of rooms_of, if they are known."""
    if type(value) is not tuple or len(value) != 2 or type(value[0]) is not str:
        return False
    word, proof = value
    if word == "draw":
        return is_draw(stock, plan, proof) and is_unlucky(collections, proof)
    if word != "table" or type(proof) is not tuple:
        return False
    allowed = excluding_sets(rooms or rooms_of(stock, collections), plan)
    # The reprs tell (0, 1) from [0, 1] and from (False, True).
    return len(proof) == len(allowed) and all(
        repr(drawers) in [repr(other) for other in row] for drawers, row in zip(proof, allowed))


def choices_of(stock, plan):
    """Each choice of the plan, thing by thing, as the list of the kinds of its things."""
    by_drawer = []
    for drawer, number in zip(stock, plan):
        things = [kind for kind, many in enumerate(drawer) for _ in range(many)]
        by_drawer.append(list(itertools.combinations(things, number)))
    for parts in itertools.product(*by_drawer):
        yield [kind for part in parts for kind in part]


def count_draws(stock, plan):
    return sum(1 for _ in choices_of(stock, plan))


def count_lucky(stock, collections, plan):
    lucky = 0
    for choice in choices_of(stock, plan):
        counts = tuple(choice.count(kind) for kind in kinds_of(collections))
        if first_fulfilled(collections, counts) is not None:
            lucky += 1
    return lucky


def many_choices(stock, plan):
    """The number of choices for stocks that are too large to go through them."""
    number = 1
    for drawer, few in zip(stock, plan):
        size = sum(drawer)
        number *= math.factorial(size) // math.factorial(few) // math.factorial(size - few)
    return number
