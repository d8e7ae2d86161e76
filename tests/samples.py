"""Values that several tests use."""

import copy

from darkdrawers.bounds import MAX_COUNT
from darkdrawers.errors import TooMuch

# Values of every kind that "any value" names; none of them is a stock or a part of one.
STRANGE_VALUES = [
    None, True, False, 0, 1, -1, 50, 51, 10 ** 39, -(10 ** 39),
    "", "stock", "2,1 1,3", "a\nb", "x" * 2000,
    {}, {"0": (1,)}, {"a": {"b": [1, (2,)]}},
    [], [1], [(1,)], [[1]], [(2, 1), (1, 3)],
    TooMuch(51),
]

# The stock and the collections of the examples in the document.
D = ((2, 1), (1, 3))
W = ((1, 1),)


def nested(value, levels):
    """The value inside so many tuples."""
    for _ in range(levels):
        value = (value,)
    return value


def shape(value):
    """A text that tells values apart that are equal, such as 1 and True."""
    return repr(value)


def in_bools(value):
    """The value with False and True in place of 0 and 1, at any depth."""
    if type(value) is tuple:
        return tuple(in_bools(item) for item in value)
    return bool(value) if type(value) is int and value in (0, 1) else value


def in_lists(value):
    """The value with lists in place of all tuples."""
    return [in_lists(item) for item in value] if type(value) is tuple else value


def with_one_part_replaced(value):
    """Copies of a value of tuples in which one part, at any depth, is something else."""
    yield from STRANGE_VALUES
    yield (value,)
    yield [value]
    if type(value) is int:
        yield from (value - 1, value + 1, str(value), bool(value))
    if type(value) is str:
        yield from (value.upper(), value + " ", value[:-1], value.encode(), list(value))
    if type(value) is tuple:
        yield from (list(value), dict(enumerate(value)), value[::-1], value[1:], value[:-1])
        yield from (value + value[-1:], value + (0,), value + ((),), (None,) + value)
        for at, item in enumerate(value):
            for other in with_one_part_replaced(item):
                yield value[:at] + (other,) + value[at + 1:]


def unchanged(test, call, *values):
    """Tests that a call changes none of these arguments and that it answers the same again."""
    kept = [shape(copy.deepcopy(value)) for value in values]
    first = shape(call(*values))
    test.assertEqual([shape(value) for value in values], kept)
    test.assertEqual(shape(call(*values)), first)
    test.assertEqual([shape(value) for value in values], kept)


def check_raises(test, expected, call, *values, **named):
    """Tests that the call raises an error of this very class with these very fields."""
    with test.assertRaises(type(expected)) as held:
        call(*values, **named)
    test.assertIs(type(held.exception), type(expected))
    fields = {name: shape(value) for name, value in vars(held.exception).items()}
    test.assertEqual(fields, {name: shape(value) for name, value in vars(expected).items()})


class Dice:
    """Numbers that look thrown, but are the same in each run."""

    def __init__(self, start):
        self.state = start

    def throw(self, most):
        """A number from 0 to most."""
        self.state = (self.state * 6364136223846793005 + 1442695040888963407) % 2 ** 64
        return (self.state >> 33) % (most + 1)

    def counts(self, kinds, most):
        return tuple(self.throw(most) for _ in range(kinds))

    def stock(self, drawers, kinds, most):
        return tuple(self.counts(kinds, most) for _ in range(drawers))

    def collections(self, many, kinds, most):
        found = []
        while len(found) < many:
            collection = self.counts(kinds, most)
            if any(collection):
                found.append(collection)
        return tuple(found)

    def plan(self, stock):
        return tuple(self.throw(sum(drawer)) for drawer in stock)


# Stocks and collections with the edges: one of each, empty drawers, equal collections, a wish
# that nothing fulfils, kinds that nobody needs or that are not there.
EDGE_CASES = [
    (D, W),
    (D, ((1, 1), (3, 0))),
    (D, ((9, 9),)),
    (((0,),), ((1,),)),
    (((1,),), ((1,),)),
    (((5,),), ((3,),)),
    (((5,),), ((3,), (2,), (3,))),
    (((0, 0), (0, 0)), ((0, 1),)),
    (((0, 0), (2, 2)), ((1, 1), (1, 1))),
    (((3, 0), (0, 3)), ((0, 2),)),
    (((2, 2),), ((2, 1), (1, 2))),
    (((1,), (1,), (1,), (1,)), ((3,),)),
    (((1,), (0,), (2,), (0,)), ((1,), (1,), (1,), (1,))),
    (((1, 1, 1, 1),), ((1, 0, 0, 0), (0, 1, 0, 0), (0, 0, 1, 0), (0, 0, 0, 1))),
    (((1, 0, 1, 0), (0, 1, 0, 1), (1, 1, 0, 0), (0, 0, 1, 1)), ((1, 1, 1, 1), (2, 2, 0, 0))),
    (((1, 0, 0, 0), (0, 1, 0, 0), (0, 0, 1, 0), (0, 0, 0, 1)), ((1, 1, 0, 0), (0, 0, 1, 1))),
    (((0, 2), (2, 0), (1, 1)), ((2, 2), (0, 3), (3, 0), (1, 1))),
]


def small_cases():
    """Stocks and collections that are small enough to try everything."""
    cases = list(EDGE_CASES)
    dice = Dice(7)
    for drawers, kinds, most, times in [(1, 1, 6, 6), (1, 2, 4, 10), (1, 3, 2, 10), (1, 4, 2, 8),
                                        (2, 1, 3, 8), (2, 2, 2, 40), (2, 3, 2, 20), (3, 2, 2, 20),
                                        (3, 1, 2, 8), (4, 2, 1, 15), (3, 3, 1, 15), (2, 4, 1, 15)]:
        for time in range(times):
            stock = dice.stock(drawers, kinds, most)
            cases.append((stock, dice.collections(1 + time % 4, kinds, min(3, 1 + most))))
    return cases


# Stocks at the limits: four drawers, four kinds, 50 things of each, four collections.
FULL = ((MAX_COUNT,) * 4,) * 4
LARGE_CASES = [
    (FULL, ((MAX_COUNT,) * 4,) * 4),
    (FULL, ((1, 1, 1, 1),) * 4),
    (FULL, ((50, 49, 48, 47), (40, 50, 30, 20), (10, 20, 30, 40), (1, 2, 3, 50))),
    (FULL, ((50, 0, 0, 0), (0, 50, 0, 0), (0, 0, 50, 0), (0, 0, 0, 50))),
    (FULL, ((50, 50, 0, 0), (0, 50, 50, 0), (0, 0, 50, 50), (50, 0, 0, 50))),
    (((50, 0, 0, 0), (0, 50, 0, 0), (0, 0, 50, 0), (0, 0, 0, 50)),
     ((50, 50, 50, 50), (20, 30, 10, 40), (50, 1, 50, 1), (7, 7, 7, 7))),
    (((50, 50, 50, 50), (0, 0, 0, 0), (50, 50, 0, 0), (0, 0, 50, 50)),
     ((50, 40, 30, 20), (20, 30, 40, 50), (50, 50, 0, 0), (0, 1, 0, 50))),
    (((12, 12, 12, 12), (12, 12, 12, 12), (12, 12, 12, 12), (13, 12, 12, 12)),
     ((50, 1, 1, 1), (1, 50, 1, 1), (1, 1, 50, 1), (1, 1, 1, 50))),
]


def large_cases():
    """Stocks and collections at the limits and some a bit below them."""
    cases = list(LARGE_CASES)
    dice = Dice(11)
    for _ in range(8):
        cases.append((dice.stock(4, 4, MAX_COUNT), dice.collections(4, 4, MAX_COUNT)))
    return cases
