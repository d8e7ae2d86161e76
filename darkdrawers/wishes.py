"""Wishes: the collections of which at least one shall be had whole."""

from darkdrawers.bounds import MAX_COLLECTIONS, MAX_COUNT
from darkdrawers.checks import are_numbers, is_tuple_of


def are_collections(kinds, value):
    """Whether the value is collections for so many kinds."""
    if not is_tuple_of(value, 1, MAX_COLLECTIONS):
        return False
    return all([is_collection(kinds, collection) for collection in value])


def is_collection(kinds, value):
    """Whether the value is a collection for so many kinds."""
    return are_numbers(value, kinds, kinds, MAX_COUNT) and sum(value) > 0


def fulfilled_by(collections, counts):
    """The index of the first collection that the counts contain, or None."""
    for index, collection in enumerate(collections):
        if contain(counts, collection):
            return index
    return None


def contain(counts, collection):
    """Whether the counts have at least as many of each kind as the collection needs."""
    return all([count >= needed for count, needed in zip(counts, collection)])


def spoilings_of(collections):
    """The ascending tuple of all spoilings: a needed kind of each collection."""
    spoilings = [()]
    for collection in collections:
        kinds = [kind for kind, needed in enumerate(collection) if needed > 0]
        spoilings = [(*spoiling, kind) for spoiling in spoilings for kind in kinds]
    return tuple(spoilings)


def caps_of(collections, spoiling):
    """For each kind how many things of it still spoil the collections, or None if any number does."""
    caps = []
    for kind, needs in enumerate(zip(*collections)):
        spoiled = [needed for needed, named in zip(needs, spoiling) if named == kind]
        caps.append(min(spoiled) - 1 if spoiled else None)
    return tuple(caps)
