"""Plans: how many things are taken from each drawer, and whether that is enough."""

from darkdrawers.checks import are_numbers, are_numbers_up_to, is_tuple_of
from darkdrawers.stocks import sizes_of, totals_of
from darkdrawers.wishes import caps_of, fulfilled_by, spoilings_of


def is_plan(stock, value):
    """Whether the value is a plan for the stock."""
    return are_numbers_up_to(value, sizes_of(stock))


def is_draw(stock, plan, value):
    """Whether the value is a draw of the plan."""
    if not is_tuple_of(value, len(stock), len(stock)):
        return False
    return all([is_taken_from(drawer, number, counts)
                for drawer, number, counts in zip(stock, plan, value)])


def is_taken_from(drawer, number, value):
    """Whether the value is counts of so many things from the drawer."""
    return are_numbers_up_to(value, drawer) and sum(value) == number


def room_in(stock, caps, drawers):
    """The most things that these drawers give without going above a cap."""
    return room_of(totals_of([stock[drawer] for drawer in drawers]), caps)


def room_of(totals, caps):
    """The most of these things that do not go above a cap."""
    # Without any drawers the totals are (), which leaves nothing to add up.
    return sum([total if cap is None else min(total, cap) for total, cap in zip(totals, caps)])


def find_certificate(stock, collections, plan):
    """An unlucky draw of the plan, or the table that excludes all of them."""
    loads = loads_of(stock, plan)
    table = []
    for spoiling in spoilings_of(collections):
        caps = caps_of(collections, spoiling)
        drawers = overfull(loads, caps)
        if drawers is None:
            return ("draw", draw_within(stock, caps, plan))
        table.append(drawers)
    return ("table", tuple(table))


def loads_of(stock, plan):
    """For each set of drawers (drawers, what the plan takes from them, their totals)."""
    loads = []
    for drawers in sets_of_drawers(stock):
        taken = sum([plan[drawer] for drawer in drawers])
        loads.append((drawers, taken, totals_of([stock[drawer] for drawer in drawers])))
    return loads


def sets_of_drawers(stock):
    """All ascending tuples of drawers of the stock."""
    sets = [()]
    for drawer in range(len(stock)):
        sets = sets + [(*drawers, drawer) for drawers in sets]
    return sets


def overfull(loads, caps):
    """The first drawers from which more things are taken than their room, or None."""
    for drawers, taken, totals in loads:
        if taken > room_of(totals, caps):
            return drawers
    return None


def draw_within(stock, caps, plan):
    """A draw of the plan with no more of any kind than its cap; no drawers may be overfull."""
    left = [total if cap is None else cap for total, cap in zip(totals_of(stock), caps)]
    draw = []
    for place, drawer in enumerate(stock):
        later = loads_of(stock[place + 1:], plan[place + 1:])
        number = plan[place]
        counts = []
        for kind, things in enumerate(drawer):
            # More of this kind never hurts this drawer: only the later ones set a limit.
            count = min(number, things, spare_of(later, left, kind))
            number = number - count
            left[kind] = left[kind] - count
            counts.append(count)
        draw.append(tuple(counts))
    return tuple(draw)


def spare_of(loads, caps, kind):
    """The most things of the kind that may be taken elsewhere without any drawers getting overfull."""
    without = list(caps)
    without[kind] = 0
    return caps[kind] + min([room_of(totals, without) - taken for _, taken, totals in loads])


def certificate_holds(stock, collections, plan, value):
    """Whether the value is a certificate for the plan."""
    if not is_tuple_of(value, 2, 2):
        return False
    word, proof = value
    if word == "draw":
        return is_unlucky_draw(stock, collections, plan, proof)
    if word == "table":
        return is_excluding_table(stock, collections, plan, proof)
    return False


def is_unlucky_draw(stock, collections, plan, value):
    """Whether the value is a draw of the plan that does not fulfil the wish."""
    return is_draw(stock, plan, value) and fulfilled_by(collections, totals_of(value)) is None


def is_excluding_table(stock, collections, plan, value):
    """Whether the value has overfull drawers for each spoiling."""
    spoilings = spoilings_of(collections)
    if not is_tuple_of(value, len(spoilings), len(spoilings)):
        return False
    return all([are_overfull(stock, caps_of(collections, spoiling), plan, drawers)
                for spoiling, drawers in zip(spoilings, value)])


def are_overfull(stock, caps, plan, value):
    """Whether the value is drawers from which the plan takes more things than their room."""
    if not are_drawers(stock, value):
        return False
    return sum([plan[drawer] for drawer in value]) > room_in(stock, caps, value)


def are_drawers(stock, value):
    """Whether the value is an ascending tuple of drawers of the stock."""
    if not are_numbers(value, 0, len(stock), len(stock) - 1):
        return False
    return all([drawer < after for drawer, after in zip(value, value[1:])])


def is_sure(stock, collections, plan):
    """Whether no draw of the plan is unlucky."""
    word, _ = find_certificate(stock, collections, plan)
    return word == "table"


def sure_total(stock, collections):
    """The least number of things that are enough however they are divided, or None."""
    totals = totals_of(stock)
    if fulfilled_by(collections, totals) is None:
        return None
    return 1 + max([room_of(totals, caps_of(collections, spoiling))
                    for spoiling in spoilings_of(collections)])


def sure_number(stock, collections, drawer):
    """The least number of things that are enough if all are from this drawer, or None."""
    return sure_total((stock[drawer],), collections)
