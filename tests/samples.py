"""Values that several tests use."""

from darkdrawers.errors import TooMuch

# Values of every kind that "any value" names; none of them is a stock or a part of one.
STRANGE_VALUES = [
    None, True, False, 0, 1, -1, 50, 51, 10 ** 39, -(10 ** 39),
    "", "stock", "2,1 1,3", "a\nb", "x" * 2000,
    {}, {"0": (1,)}, {"a": {"b": [1, (2,)]}},
    [], [1], [(1,)], [[1]], [(2, 1), (1, 3)],
    TooMuch(51),
]


def nested(value, levels):
    """The value inside so many tuples."""
    for _ in range(levels):
        value = (value,)
    return value


def shape(value):
    """A text that tells values apart that are equal, such as 1 and True."""
    return repr(value)
