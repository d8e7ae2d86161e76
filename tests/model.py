"""What a cabinet must do, kept another way: the edits that stand, done again from the start."""

from darkdrawers import errors
from darkdrawers.cabinets import Cabinet, HandCabinet
from darkdrawers.plans import find_certificate
from tests import brute
from tests.samples import check_raises, shape

MAX_EDITS = 60
VALUES = {"put": 3, "remove": 3, "wish": 1, "drop": 1}


def is_int(value, least, most):
    return type(value) is int and least <= value <= most


class Model:
    def __init__(self, stock, collections, most=None):
        self.start = (stock, collections)
        self.most = most
        self.done = []

    def new(self):
        """A new cabinet like it, without edits."""
        if self.most is None:
            return Cabinet(*self.start)
        return HandCabinet(*self.start, self.most)

    def state(self, version=None):
        stock, collections = self.start
        stock = [list(drawer) for drawer in stock]
        collections = list(collections)
        for edit in self.done if version is None else self.done[:version]:
            change(stock, collections, edit)
        return tuple(map(tuple, stock)), tuple(collections)

    def sure(self):
        return brute.sure_by_rooms(*self.state())

    def error(self, edit):
        """The error that the edit must raise, or None."""
        if len(self.done) >= MAX_EDITS:
            return errors.TooManyEdits()
        wrong = value_error(*self.state(), edit)
        if wrong is None and self.most is not None:
            self.done.append(edit)
            sure = self.sure()
            self.done.pop()
            if sure is None or sure > self.most:
                return errors.TooFull(sure)
        return wrong


def change(stock, collections, edit):
    """Does an edit with the lists of a state."""
    name, *values = edit
    if name in ("put", "remove"):
        drawer, kind, count = values
        stock[drawer][kind] += count if name == "put" else -count
    elif name == "wish":
        collections.append(values[0])
    else:
        del collections[values[0]]


def value_error(stock, collections, edit):
    """The error that the values of the edit raise in this state, or None."""
    name, *values = edit
    if name == "wish":
        wished = values[0]
        if not brute.are_ints(wished, len(stock[0])) or not all(0 <= x <= 50 for x in wished) \
                or not any(wished):
            return errors.BadCollection(wished)
        return errors.TooManyCollections() if len(collections) >= 4 else None
    if name == "drop":
        if not is_int(values[0], 0, len(collections) - 1):
            return errors.NoCollection(values[0])
        return errors.LastCollection() if len(collections) == 1 else None
    drawer, kind, count = values
    if not is_int(drawer, 0, len(stock) - 1):
        return errors.NoDrawer(drawer)
    if not is_int(kind, 0, len(stock[0]) - 1):
        return errors.NoKind(kind)
    if not is_int(count, 1, 50):
        return errors.BadCount(count)
    things = stock[drawer][kind]
    if name == "put":
        return errors.TooMuch(things + count) if things + count > 50 else None
    return errors.TooFew(kind) if count > things else None


def do(cabinet, edit):
    """Calls the edit of the cabinet."""
    return getattr(cabinet, edit[0])(*edit[1:])


def do_both(test, cabinet, model, edit):
    """Does the edit with both and tests what the cabinet answers; whether it stands."""
    wrong = model.error(edit)
    if wrong is not None:
        check_raises(test, wrong, do, cabinet, edit)
        return False
    model.done.append(edit)
    test.assertEqual(shape(do(cabinet, edit)), shape(len(model.done)))
    return True


def undo_both(test, cabinet, model):
    """Undoes one edit with both and tests what the cabinet answers."""
    if not model.done:
        check_raises(test, errors.NothingToUndo(), cabinet.undo)
        return
    model.done.pop()
    test.assertEqual(shape(cabinet.undo()), shape(len(model.done)))


def check_now(test, cabinet, model):
    """Tests the attributes and the queries without a version."""
    stock, collections = model.state()
    test.assertEqual(shape(cabinet.stock), shape(stock))
    test.assertEqual(shape(cabinet.collections), shape(collections))
    test.assertEqual(shape(cabinet.sure), shape(model.sure()))
    test.assertEqual(shape(len(cabinet)), shape(len(model.done)))
    test.assertEqual(shape(cabinet.edits()), shape(tuple(model.done)))
    test.assertEqual(shape(cabinet.state()), shape((stock, collections)))
    things = sum(map(sum, stock))
    test.assertEqual(str(cabinet), (
        f"{len(stock)} drawers, {len(stock[0])} kinds, {things} things, "
        f"{len(collections)} collections, {len(model.done)} edits"))
    if model.most is not None:
        test.assertEqual(shape(cabinet.most), shape(model.most))


def check_walk(test, cabinet, model):
    stock, collections = model.state()
    rows = [(spoiling, brute.room_of_all(stock, collections, spoiling))
            for spoiling in brute.spoilings_of(collections)]
    test.assertEqual(shape(list(cabinet.walk())), shape(rows))


def check_versions(test, cabinet, model):
    """Tests the queries with a version, at each version and one beyond."""
    for version in range(len(model.done) + 1):
        stock, collections = model.state(version)
        test.assertEqual(shape(cabinet.state(version=version)), shape((stock, collections)))
        plan = tuple(sum(drawer) // 2 for drawer in stock)
        test.assertEqual(shape(cabinet.certificate(plan, version=version)),
                         shape(find_certificate(stock, collections, plan)))
    for version in (-1, len(model.done) + 1):
        check_raises(test, errors.NoVersion(version), cabinet.state, version=version)


def check_all(test, cabinet, model):
    check_now(test, cabinet, model)
    check_walk(test, cabinet, model)
    check_versions(test, cabinet, model)


def thrown_edit(dice, model):
    """An edit that often is possible and sometimes is wrong in one or several ways."""
    stock, collections = model.state()
    name = ("put", "remove", "wish", "drop", "put", "remove")[dice.throw(5)]
    if name == "wish":
        kinds = len(stock[0]) + (dice.throw(15) == 0)
        return ("wish", dice.counts(kinds, (2, 4, 51)[dice.throw(2)]))
    if name == "drop":
        return ("drop", dice.throw(len(collections)) - (dice.throw(9) == 0))
    drawer = dice.throw(len(stock) - (dice.throw(9) > 0))
    kind = dice.throw(len(stock[0]) - (dice.throw(9) > 0))
    return (name, drawer, kind, dice.throw((3, 7, 51)[dice.throw(2)]))
