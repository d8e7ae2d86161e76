"""The errors of the program: each keeps its fields as attributes."""


class DrawerError(ValueError):
    """The base of the errors about wrong values."""


class TooLarge(DrawerError):
    """There is more than this bound allows."""

    def __init__(self, bound):
        self.bound = bound


class BadCounts(DrawerError):
    """The value is not counts."""

    def __init__(self, value):
        self.value = value


class OtherKinds(DrawerError):
    """Two heaps do not have equally many kinds."""


class TooMuch(DrawerError):
    """There would be so many things, which is more than may be."""

    def __init__(self, total):
        self.total = total


class TooFew(DrawerError):
    """There are not enough things of this kind."""

    def __init__(self, kind):
        self.kind = kind


class BadKinds(DrawerError):
    """The value is not a number of kinds."""

    def __init__(self, value):
        self.value = value


class BadWish(DrawerError):
    """The value is not collections for the kinds."""

    def __init__(self, value):
        self.value = value


class BadHeap(DrawerError):
    """The value is not a heap of the kinds."""

    def __init__(self, value):
        self.value = value


class BadStock(DrawerError):
    """The value is not a stock: error is what stock_error tells."""

    def __init__(self, error):
        self.error = error


class Busy(DrawerError):
    """A watch of the cabinet runs."""


class TooManyEdits(DrawerError):
    """No further edit may stand."""


class BadCount(DrawerError):
    """The value is not a count of things to move."""

    def __init__(self, value):
        self.value = value


class BadCollection(DrawerError):
    """The value is not a collection for the kinds."""

    def __init__(self, value):
        self.value = value


class TooManyCollections(DrawerError):
    """No further collection may be wished."""


class LastCollection(DrawerError):
    """The only collection cannot be dropped."""


class NothingToUndo(DrawerError):
    """No edit stands."""


class BadEdits(DrawerError):
    """The edits are not a list or tuple, or there are too many."""


class BadEdit(DrawerError):
    """The item with this index is not an edit."""

    def __init__(self, index):
        self.index = index


class Rejected(DrawerError):
    """The edit with this index raised an error."""

    def __init__(self, index):
        self.index = index


class BadPlan(DrawerError):
    """The value is not a plan for the stock."""

    def __init__(self, value):
        self.value = value


class BadMost(DrawerError):
    """The value is not a number that a hand can have."""

    def __init__(self, value):
        self.value = value


class TooFull(DrawerError):
    """A hand cannot hold so many things; None stands for no number."""

    def __init__(self, number):
        self.number = number


class BadText(DrawerError):
    """The word with this index is wrong; None stands for no text."""

    def __init__(self, index):
        self.index = index


class NoKind(LookupError):
    """The value is not a kind."""

    def __init__(self, value):
        self.value = value


class NoDrawer(LookupError):
    """The value is not a drawer."""

    def __init__(self, value):
        self.value = value


class NoCollection(LookupError):
    """The value is not the index of a collection."""

    def __init__(self, value):
        self.value = value


class NoVersion(LookupError):
    """The value is not a version."""

    def __init__(self, value):
        self.value = value
