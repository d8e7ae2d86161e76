"""Cabinets: stocks and collections that change by edits, with undo."""

from darkdrawers.bounds import BATCH, MAX_COLLECTIONS, MAX_COUNT
from darkdrawers.checks import is_number_up_to, is_positive_up_to
from darkdrawers.errors import (
    BadCollection, BadCount, BadEdit, BadEdits, BadPlan, BadStock, BadWish, Busy, DrawerError, LastCollection,
    NoCollection, NoDrawer, NoKind, NothingToUndo, NoVersion, Rejected, TooFew, TooFull, TooManyCollections,
    TooManyEdits, TooMuch)
from darkdrawers.hands import Hand
from darkdrawers.plans import find_certificate, is_plan, room_in, sure_total
from darkdrawers.stocks import sizes_of, stock_error, with_more
from darkdrawers.texts import parse_cabinet
from darkdrawers.wishes import are_collections, caps_of, is_collection, spoilings_of

# How many values each edit takes.
VALUES_OF_EDITS = {"put": 3, "remove": 3, "wish": 1, "drop": 1}


class Cabinet:
    """A stock and collections that change by edits."""

    # A class value is a literal: it is the number MAX_EDITS.
    MOST_EDITS = 60

    def __init__(self, stock, collections):
        error = stock_error(stock)
        if error is not None:
            raise BadStock(error)
        if not are_collections(len(stock[0]), collections):
            raise BadWish(collections)
        self.stock = stock
        self.collections = collections
        self.sure = sure_total(stock, collections)
        # For each edit that stands (edit, stock, collections), as they were before it.
        self.past = ()
        self.watched = False

    @classmethod
    def read(cls, text):
        """A new cabinet with the stock and the collections of the text."""
        stock, collections = parse_cabinet(text)
        return cls(stock, collections)

    def put(self, drawer, kind, count):
        """Adds things of the kind to the drawer and returns the new version."""
        self.check_edit()
        self.check_things(drawer, kind, count)
        total = self.stock[drawer][kind] + count
        if total > MAX_COUNT:
            raise TooMuch(total)
        stock = with_more(self.stock, drawer, kind, count)
        return self.change(("put", drawer, kind, count), stock, self.collections)

    def remove(self, drawer, kind, count):
        """Takes things of the kind out of the drawer and returns the new version."""
        self.check_edit()
        self.check_things(drawer, kind, count)
        if count > self.stock[drawer][kind]:
            raise TooFew(kind)
        stock = with_more(self.stock, drawer, kind, -count)
        return self.change(("remove", drawer, kind, count), stock, self.collections)

    def wish(self, collection):
        """Puts the collection at the end of the collections and returns the new version."""
        self.check_edit()
        if not is_collection(len(self.stock[0]), collection):
            raise BadCollection(collection)
        if len(self.collections) == MAX_COLLECTIONS:
            raise TooManyCollections()
        return self.change(("wish", collection), self.stock, (*self.collections, collection))

    def drop(self, index):
        """Removes the collection with this index and returns the new version."""
        self.check_edit()
        if not is_number_up_to(index, len(self.collections) - 1):
            raise NoCollection(index)
        if len(self.collections) == 1:
            raise LastCollection()
        left = self.collections[:index] + self.collections[index + 1:]
        return self.change(("drop", index), self.stock, left)

    def undo(self):
        """Removes the last edit that stands and returns the new version."""
        self.check_idle()
        if not self.past:
            raise NothingToUndo()
        _, self.stock, self.collections = self.past[-1]
        self.sure = sure_total(self.stock, self.collections)
        self.past = self.past[:-1]
        return len(self.past)

    def check_idle(self):
        """Raises an error while a watch of this cabinet runs."""
        if self.watched:
            raise Busy()

    def check_edit(self):
        """Raises an error if no edit may be done now, whichever it is."""
        self.check_idle()
        if len(self.past) == self.MOST_EDITS:
            raise TooManyEdits()

    def check_things(self, drawer, kind, count):
        """Raises the first of the errors that put and remove have in common, if one applies."""
        if not is_number_up_to(drawer, len(self.stock) - 1):
            raise NoDrawer(drawer)
        if not is_number_up_to(kind, len(self.stock[0]) - 1):
            raise NoKind(kind)
        if not is_positive_up_to(count, MAX_COUNT):
            raise BadCount(count)

    def check_sure(self, sure):
        """Raises an error if sure may not become this number; without a hand it may be any."""
        pass

    def change(self, edit, stock, collections):
        """Lets the edit stand, which gives this stock and these collections; returns the new version."""
        sure = sure_total(stock, collections)
        self.check_sure(sure)
        self.past = (*self.past, (edit, self.stock, self.collections))
        self.stock = stock
        self.collections = collections
        self.sure = sure
        return len(self.past)

    def attempt(self, edits, *, watch=None):
        """Does the edits in order, all or none, until watch stops; returns how many were done."""
        self.check_idle()
        batch = batch_of(edits)
        stock = self.stock
        collections = self.collections
        sure = self.sure
        past = self.past
        done = None
        try:
            done = self.do_batch(batch, watch)
        finally:
            # Any exception of watch ends here, too, also one that cannot be caught by name.
            if done is None:
                self.stock = stock
                self.collections = collections
                self.sure = sure
                self.past = past
        return done

    def do_batch(self, batch, watch):
        """Does the edits in order until watch stops, and returns how many were done."""
        for index, edit in enumerate(batch):
            try:
                self.do_edit(edit)
            except (DrawerError, NoDrawer, NoKind, NoCollection):
                raise Rejected(index) from None
            if watch is not None and self.is_stopped_by(watch):
                return index + 1
        return len(batch)

    def do_edit(self, edit):
        """Does the edit, a tuple of its name and its values, and returns the new version."""
        name, *values = edit
        if name == "wish":
            return self.wish(values[0])
        if name == "drop":
            return self.drop(values[0])
        drawer, kind, count = values
        if name == "put":
            return self.put(drawer, kind, count)
        return self.remove(drawer, kind, count)

    def is_stopped_by(self, watch):
        """Whether watch stops the batch; meanwhile no edit changes this cabinet."""
        self.watched = True
        try:
            return bool(watch(self))
        finally:
            self.watched = False

    def state(self, *, version=None):
        """The stock and the collections, now or after so many of the edits that stand."""
        if version is None:
            return (self.stock, self.collections)
        if not is_number_up_to(version, len(self.past)):
            raise NoVersion(version)
        if version == len(self.past):
            return (self.stock, self.collections)
        _, stock, collections = self.past[version]
        return (stock, collections)

    def certificate(self, plan, *, version=None):
        """A certificate for the plan, now or after so many of the edits that stand."""
        stock, collections = self.state(version=version)
        if not is_plan(stock, plan):
            raise BadPlan(plan)
        return find_certificate(stock, collections, plan)

    def walk(self):
        """Yields each spoiling with the room of all drawers for its caps."""
        drawers = tuple(range(len(self.stock)))
        for spoiling in spoilings_of(self.collections):
            yield (spoiling, room_in(self.stock, caps_of(self.collections, spoiling), drawers))

    def edits(self):
        """The tuple of the edits that stand, the first one first."""
        return tuple([step[0] for step in self.past])

    def __len__(self):
        return len(self.past)

    def __str__(self):
        return ", ".join([
            f"{len(self.stock)} drawers",
            f"{len(self.stock[0])} kinds",
            f"{sum(sizes_of(self.stock))} things",
            f"{len(self.collections)} collections",
            f"{len(self.past)} edits",
        ])

    def __eq__(self, other):
        return isinstance(other, Cabinet) and not isinstance(other, HandCabinet) and is_same_state(self, other)


class HandCabinet(Cabinet, Hand):
    """A cabinet with a hand that can always hold as many things as are sure to be enough."""

    def __init__(self, stock, collections, most):
        Cabinet.__init__(self, stock, collections)
        Hand.__init__(self, most)
        self.check_sure(self.sure)

    def check_sure(self, sure):
        """Raises an error if the hand cannot hold so many things, or if no number is sure."""
        if sure is None or sure > self.most:
            raise TooFull(sure)

    def __eq__(self, other):
        return isinstance(other, HandCabinet) and self.most == other.most and is_same_state(self, other)


def is_same_state(one, other):
    """Whether two cabinets have the same stock and the same collections."""
    return one.stock == other.stock and one.collections == other.collections


def batch_of(edits):
    """A copy of the edits; raises an error if they are no edits or too many."""
    if not isinstance(edits, (list, tuple)) or len(edits) > BATCH:
        raise BadEdits()
    for index, edit in enumerate(edits):
        if not is_edit(edit):
            raise BadEdit(index)
    return list(edits)


def is_edit(value):
    """Whether the value is a tuple of the name of an edit and as many values as it takes."""
    if not isinstance(value, tuple) or not value:
        return False
    name = value[0]
    return isinstance(name, str) and len(value) - 1 == VALUES_OF_EDITS.get(name)
