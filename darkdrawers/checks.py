"""Tests of any values that several modules need."""


def is_number(value):
    """Whether the value is an int that is not a bool."""
    # True and 1 are equal, so a comparison cannot tell them apart.
    return isinstance(value, int) and not isinstance(value, bool)


def is_number_up_to(value, most):
    """Whether the value is a number from 0 to most."""
    return is_number(value) and 0 <= value <= most


def is_positive_up_to(value, most):
    """Whether the value is a number from 1 to most."""
    return is_number_up_to(value, most) and value > 0


def is_tuple_of(value, fewest, most):
    """Whether the value is a tuple of fewest to most items."""
    return isinstance(value, tuple) and fewest <= len(value) <= most


def are_numbers(value, fewest, most, limit):
    """Whether the value is a tuple of fewest to most numbers from 0 to limit."""
    if not is_tuple_of(value, fewest, most):
        return False
    return all([is_number_up_to(number, limit) for number in value])


def are_numbers_up_to(value, limits):
    """Whether the value is a tuple with a number from 0 to the limit for each of the limits."""
    if not is_tuple_of(value, len(limits), len(limits)):
        return False
    return all([is_number_up_to(number, limit) for number, limit in zip(value, limits)])
