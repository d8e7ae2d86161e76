"""Values: heaps of things, and wishes that are asked about heaps."""

from darkdrawers.bounds import LIMIT, MAX_KINDS
from darkdrawers.checks import are_numbers, is_number_up_to, is_positive_up_to
from darkdrawers.errors import BadCounts, BadHeap, BadKinds, BadWish, NoKind, OtherKinds, TooFew, TooMuch
from darkdrawers.wishes import are_collections, contain, fulfilled_by


class Heap:
    """So many things of each kind."""

    def __init__(self, counts):
        if not are_numbers(counts, 1, MAX_KINDS, LIMIT):
            raise BadCounts(counts)
        self.counts = counts

    def __getitem__(self, at):
        if not is_number_up_to(at, len(self.counts) - 1):
            raise NoKind(at)
        return self.counts[at]

    def __iter__(self):
        # Without it, Python would loop over heap[0], heap[1] and so on.
        raise TypeError("a heap is not looped over")

    def __add__(self, other):
        self.check_kinds(other)
        totals = [count + more for count, more in zip(self.counts, other.counts)]
        for total in totals:
            if total > LIMIT:
                raise TooMuch(total)
        return Heap(tuple(totals))

    def __sub__(self, other):
        self.check_kinds(other)
        left = [count - less for count, less in zip(self.counts, other.counts)]
        for kind, number in enumerate(left):
            if number < 0:
                raise TooFew(kind)
        return Heap(tuple(left))

    def check_kinds(self, other):
        """Raises an error if the other heap does not have equally many kinds."""
        if len(self.counts) != len(other.counts):
            raise OtherKinds()

    def __contains__(self, x):
        return is_heap_of(x, len(self.counts)) and contain(self.counts, x.counts)

    def __len__(self):
        return len(self.counts)

    def __str__(self):
        return "".join([f"{count:>3}" for count in self.counts])

    def __eq__(self, other):
        return isinstance(other, Heap) and self.counts == other.counts


def is_heap_of(value, kinds):
    """Whether the value is a heap of so many kinds."""
    return isinstance(value, Heap) and len(value.counts) == kinds


class Wish:
    """A wish that is called with a heap and tells which of its collections the heap contains."""

    def __init__(self, kinds, collections):
        if not is_positive_up_to(kinds, MAX_KINDS):
            raise BadKinds(kinds)
        if not are_collections(kinds, collections):
            raise BadWish(collections)
        self.kinds = kinds
        self.collections = collections
        self.asked = 0

    def __call__(self, heap):
        if not is_heap_of(heap, self.kinds):
            raise BadHeap(heap)
        index = fulfilled_by(self.collections, heap.counts)
        self.asked += 1
        return index
