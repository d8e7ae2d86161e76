import unittest

from darkdrawers import errors
from darkdrawers.bounds import BATCH, MAX_EDITS
from darkdrawers.cabinets import Cabinet
from darkdrawers.errors import (
    BadEdit, BadEdits, Busy, NothingToUndo, NoVersion, Rejected, TooFew, TooManyEdits)
from darkdrawers.values import Heap
from tests.model import Model, check_all, check_now, do, do_both, thrown_edit, undo_both
from tests.samples import STRANGE_VALUES, D, Dice, W, check_raises, shape

GOOD_EDITS = [("put", 0, 0, 1), ("wish", (3, 0)), ("remove", 1, 1, 2), ("drop", 0), ("put", 1, 1, 9)]

# Items that are not edits.
NO_EDITS = STRANGE_VALUES + [
    (), ("put",), ("put", 0), ("put", 0, 0), ("put", 0, 0, 1, 1), ("remove",), ("remove", 0, 0),
    ("remove", 0, 0, 1, None), ("wish",), ("wish", (1, 1), (1, 1)), ("wish", 1, 1), ("drop",),
    ("drop", 0, 0), ("undo",), ("undo", 0), ("attempt", ()), ("state",), ("walk",), ("read", "7 for 3"),
    ("Put", 0, 0, 1), ("PUT", 0, 0, 1), ("put ", 0, 0, 1), (" put", 0, 0, 1), ("", 0), ("", 0, 0, 1),
    (None, 0), (0, 0, 0, 1), (True, 0), (("put",), 0, 0, 1), (["put"], 0, 0, 1), ({}, 0), ([], 0),
    (("put", 0, 0, 1),), ["put", 0, 0, 1], ["drop", 0], [("drop", 0)], {"put": (0, 0, 1)},
    "put", "put 0 0 1", "drop", ("drop 0",), Heap((1,)), (Heap((1,)), 0), ("p", "u", "t", 1),
    ("__init__", 0), ("change", 0, 0, 0), ("do_edit", 0), ("__len__",), ("stock",), ("MOST_EDITS", 1),
]


class Watcher:
    """A watch that keeps what it sees and stops at the index-th call."""

    def __init__(self, stop=None, answer=True, wait=None):
        self.stop = stop
        self.answer = answer
        self.wait = wait
        self.seen = []

    def __call__(self, cabinet):
        self.seen.append((cabinet, cabinet.state(), cabinet.edits(), cabinet.sure, len(cabinet)))
        return self.answer if len(self.seen) - 1 == self.stop else self.wait


class Stop(Exception):
    pass


class Empty:
    def __len__(self):
        return 0


class AttemptTest(unittest.TestCase):
    def setUp(self):
        self.model = Model(D, W)
        self.cabinet = self.model.new()

    def edited(self):
        """Does an edit first, so that not all edits are those of an attempt."""
        do_both(self, self.cabinet, self.model, ("put", 0, 1, 3))

    def check_unchanged(self, wrong, *values, **named):
        check_raises(self, wrong, self.cabinet.attempt, *values, **named)
        check_now(self, self.cabinet, self.model)

    def test_example(self):
        self.check_unchanged(Rejected(1), [("put", 0, 0, 1), ("drop", 0)])
        check_all(self, self.cabinet, self.model)

    def test_all_edits_in_order(self):
        self.edited()
        for batch in (list(GOOD_EDITS), tuple(GOOD_EDITS)):
            for many in range(len(batch) + 1):
                self.assertEqual(shape(self.cabinet.attempt(batch[:many])), shape(many))
                self.model.done.extend(batch[:many])
                check_all(self, self.cabinet, self.model)
                for _ in range(many):
                    undo_both(self, self.cabinet, self.model)
                    check_now(self, self.cabinet, self.model)

    def test_each_edit_stands_by_itself(self):
        self.cabinet.attempt(GOOD_EDITS)
        self.model.done.extend(GOOD_EDITS)
        for _ in GOOD_EDITS:
            undo_both(self, self.cabinet, self.model)
            check_all(self, self.cabinet, self.model)
        check_raises(self, NothingToUndo(), self.cabinet.undo)

    def test_empty_batches(self):
        def never(cabinet):
            raise Stop

        self.edited()
        for batch in ([], ()):
            for watch in (None, never):
                self.assertEqual(shape(self.cabinet.attempt(batch, watch=watch)), "0")
                check_now(self, self.cabinet, self.model)

    def test_as_many_edits_as_may_be_and_one_more(self):
        for kind in (list, tuple):
            batch = kind([("put", 0, 0, 1), ("remove", 0, 0, 1)] * (BATCH // 2))
            self.assertEqual(shape(self.cabinet.attempt(batch)), shape(BATCH))
            for _ in range(BATCH):
                self.cabinet.undo()
            for more in (1, 2, 20):
                self.check_unchanged(BadEdits(), kind(list(batch) + [("put", 0, 0, 1)] * more))

    def test_what_is_not_a_list_or_tuple(self):
        others = ["put", {"put": 1}, {}, Heap((1,)), 0, b"", {"a": ("drop", 0)},
                  frozenset(), range(0), iter([]), (edit for edit in GOOD_EDITS)]
        for value in STRANGE_VALUES + others:
            if type(value) not in (list, tuple):
                with self.subTest(value=value):
                    self.check_unchanged(BadEdits(), value)

    def test_items_that_are_not_edits(self):
        for value in NO_EDITS:
            for at in (0, 1, 5):
                batch = [("put", 0, 0, 1)] * 5
                batch.insert(at, value)
                with self.subTest(value=value, at=at):
                    self.check_unchanged(BadEdit(at), batch)
                    self.check_unchanged(BadEdit(at), tuple(batch))

    def test_the_first_of_several_items_that_are_not_edits(self):
        self.check_unchanged(BadEdit(1), [("drop", 0), None, (), ("put",)])
        self.check_unchanged(BadEdit(0), [(), None, ("put", 0, 0, 1)])

    def test_items_are_tested_before_any_edit_is_done(self):
        watch = Watcher()
        self.check_unchanged(BadEdit(2), [("put", 0, 0, 1), ("drop", 9), None], watch=watch)
        self.check_unchanged(BadEdit(19), [("put", 9, 9, 99)] * 19 + [("put", 0, 0)], watch=watch)
        self.assertEqual(watch.seen, [])

    def test_too_many_items_come_before_wrong_ones(self):
        self.check_unchanged(BadEdits(), [None] * (BATCH + 1))
        self.check_unchanged(BadEdit(0), [None] * BATCH)

    def test_values_of_edits_may_be_any(self):
        for value in STRANGE_VALUES + [(1, True), [1, 1], Heap((1, 1))]:
            wrong = type(value) is not int or value not in (0, 1)
            for edit in [("put", value, 0, 1), ("remove", 1, value, 1), ("drop", value)]:
                if wrong:
                    self.check_unchanged(Rejected(1), [("wish", (1, 1)), edit])
            self.check_unchanged(Rejected(0), [("wish", value)])
            self.check_unchanged(Rejected(1), [("put", 0, 0, 1), ("wish", value)])

    def test_an_edit_that_fails_at_each_place(self):
        self.edited()
        for wrong in [("put", 2, 0, 1), ("put", 0, 2, 1), ("remove", 0, 0, 0), ("put", 1, 1, 50),
                      ("remove", 1, 1, 20), ("wish", (0, 0)), ("drop", 4)]:
            for at in range(len(GOOD_EDITS) + 1):
                batch = GOOD_EDITS[:at] + [wrong] + GOOD_EDITS[at:]
                with self.subTest(wrong=wrong, at=at):
                    self.check_unchanged(Rejected(at), batch)
        check_all(self, self.cabinet, self.model)
        undo_both(self, self.cabinet, self.model)
        check_all(self, self.cabinet, self.model)

    def test_each_error_of_an_edit_is_rejected(self):
        wishes = [("wish", (1, 1))] * 3
        for batch, index in [
            ([("put", -1, 0, 1)], 0), ([("put", 0, -1, 1)], 0), ([("put", 0, 0, 51)], 0),
            ([("put", 0, 0, 48), ("put", 0, 0, 1)], 1), ([("remove", 0, 1, 1)] * 2, 1),
            ([("wish", (1, 1, 1))], 0), (wishes + [("wish", (1, 1))], 3), ([("drop", 1)], 0),
            ([("wish", (1, 1)), ("drop", 0), ("drop", 0)], 2),
        ]:
            self.check_unchanged(Rejected(index), batch)

    def test_too_many_edits_are_rejected(self):
        for stand in (MAX_EDITS - 3, MAX_EDITS - 1, MAX_EDITS):
            while len(self.cabinet) < stand:
                do_both(self, self.cabinet, self.model, [("put", 0, 0, 1), ("remove", 0, 0, 1)][
                    len(self.cabinet) % 2])
            self.check_unchanged(Rejected(MAX_EDITS - stand), [("wish", (1, 1)), ("drop", 0)] * 3)
            self.assertEqual(self.cabinet.attempt([]), 0)
        check_raises(self, TooManyEdits(), self.cabinet.put, 0, 0, 1)
        check_all(self, self.cabinet, self.model)

    def test_exactly_as_many_edits_as_may_stand(self):
        for _ in range(3):
            self.assertEqual(self.cabinet.attempt([("wish", (1, 1)), ("drop", 0)] * 10), 20)
        self.assertEqual(len(self.cabinet), MAX_EDITS)
        check_raises(self, Rejected(0), self.cabinet.attempt, [("wish", (1, 1))])
        self.assertEqual(len(self.cabinet), MAX_EDITS)

    def test_watch_is_passed_by_keyword(self):
        self.assertRaises(TypeError, self.cabinet.attempt, [], None)
        check_now(self, self.cabinet, self.model)

    def test_changes_to_the_list_that_was_passed(self):
        batch = list(GOOD_EDITS)

        def watch(cabinet):
            batch.clear()
            batch.append(("drop", 99))

        self.assertEqual(self.cabinet.attempt(batch, watch=watch), len(GOOD_EDITS))
        self.model.done.extend(GOOD_EDITS)
        check_all(self, self.cabinet, self.model)
        self.assertEqual(batch, [("drop", 99)])
        batch = [("put", 0, 0, 1)]
        watch = Watcher()
        self.cabinet.attempt(batch, watch=lambda cabinet: batch.append(("put", 0, 0, 1)))
        self.assertEqual(len(batch), 2)
        self.model.done.append(batch[0])
        check_all(self, self.cabinet, self.model)

    def test_the_list_that_was_passed_does_not_change(self):
        batch = list(GOOD_EDITS)
        self.cabinet.attempt(batch, watch=Watcher(stop=2))
        self.assertEqual(batch, GOOD_EDITS)
        check_raises(self, Rejected(0), self.cabinet.attempt, [("drop", 9)] + batch)
        self.assertEqual(batch, GOOD_EDITS)


class WatchTest(unittest.TestCase):
    def setUp(self):
        self.model = Model(D, W)
        self.cabinet = self.model.new()
        do_both(self, self.cabinet, self.model, ("put", 0, 1, 3))

    def check_seen(self, watch, many):
        """Tests that watch saw this cabinet after each of so many edits."""
        self.assertEqual(len(watch.seen), many)
        model = Model(D, W)
        model.done.extend(self.model.done)
        for edit, (cabinet, state, edits, sure, version) in zip(GOOD_EDITS, watch.seen):
            model.done.append(edit)
            self.assertIs(cabinet, self.cabinet)
            self.assertEqual(shape((state, edits, sure, version)), shape(
                (model.state(), tuple(model.done), model.sure(), len(model.done))))

    def test_it_is_called_after_each_edit(self):
        watch = Watcher()
        self.assertEqual(self.cabinet.attempt(GOOD_EDITS, watch=watch), len(GOOD_EDITS))
        self.check_seen(watch, len(GOOD_EDITS))
        self.model.done.extend(GOOD_EDITS)
        check_all(self, self.cabinet, self.model)

    def test_it_stops_at_each_place(self):
        for stop in range(len(GOOD_EDITS)):
            watch = Watcher(stop)
            done = self.cabinet.attempt(GOOD_EDITS, watch=watch)
            self.assertEqual(shape(done), shape(stop + 1))
            self.check_seen(watch, stop + 1)
            self.model.done.extend(GOOD_EDITS[:done])
            check_all(self, self.cabinet, self.model)
            for _ in range(done):
                undo_both(self, self.cabinet, self.model)

    def test_edits_behind_the_stop_are_not_done(self):
        batch = [("put", 0, 0, 1), ("drop", 9), ("drop", 9)]
        self.assertEqual(self.cabinet.attempt(batch, watch=Watcher(0)), 1)
        self.model.done.append(batch[0])
        check_all(self, self.cabinet, self.model)
        check_raises(self, Rejected(1), self.cabinet.attempt, batch, watch=Watcher(1))
        check_all(self, self.cabinet, self.model)

    def test_values_that_count_as_true(self):
        for answer in [True, 1, -1, 2, "no", " ", "False", "0", (0,), [None], {"": 0}, self.cabinet,
                       Heap((0,)), object(), 10 ** 39, Stop, Stop()]:
            with self.subTest(answer=answer):
                self.assertEqual(self.cabinet.attempt(GOOD_EDITS, watch=Watcher(1, answer)), 2)
                self.cabinet.undo()
                self.cabinet.undo()
        check_all(self, self.cabinet, self.model)

    def test_values_that_do_not_count_as_true(self):
        for answer in [False, None, 0, "", (), [], {}, 0.0, Empty(), Cabinet(D, W)]:
            with self.subTest(answer=answer):
                watch = Watcher(wait=answer)
                self.assertEqual(self.cabinet.attempt(GOOD_EDITS, watch=watch), len(GOOD_EDITS))
                self.check_seen(watch, len(GOOD_EDITS))
                for _ in GOOD_EDITS:
                    self.cabinet.undo()
        check_all(self, self.cabinet, self.model)

    def test_it_raises(self):
        for raised in [Stop(), ValueError("x"), KeyError(1), LookupError(), TypeError(), StopIteration(),
                       RuntimeError(), Exception(), ZeroDivisionError(), KeyboardInterrupt(),
                       SystemExit(), GeneratorExit(), BaseException(), AssertionError(),
                       errors.TooMuch(7), Rejected(0), Busy(), BadEdits(), BadEdit(3), TooFew(1),
                       errors.NoDrawer(1), errors.NoKind(1), errors.NoCollection(1), NoVersion(1),
                       errors.TooFull(None), errors.DrawerError(), TooManyEdits(), NothingToUndo()]:
            for stop in range(len(GOOD_EDITS)):
                with self.subTest(raised=raised, stop=stop):
                    self.check_raised(raised, stop)

    def check_raised(self, raised, stop):
        calls = []

        def watch(cabinet):
            calls.append(len(cabinet))
            if len(calls) > stop:
                raise raised

        with self.assertRaises(type(raised)) as held:
            self.cabinet.attempt(GOOD_EDITS, watch=watch)
        self.assertIs(held.exception, raised)
        self.assertEqual(calls, [len(self.model.done) + 1 + k for k in range(stop + 1)])
        check_now(self, self.cabinet, self.model)

    def test_after_it_has_raised_all_is_as_before(self):
        self.check_raised(Stop(), 2)
        check_all(self, self.cabinet, self.model)
        self.assertEqual(self.cabinet.attempt(GOOD_EDITS), len(GOOD_EDITS))
        for _ in GOOD_EDITS:
            self.cabinet.undo()
        undo_both(self, self.cabinet, self.model)
        do_both(self, self.cabinet, self.model, ("wish", (2, 2)))
        check_all(self, self.cabinet, self.model)

    def test_an_edit_that_fails_behind_watched_ones(self):
        watch = Watcher()
        check_raises(self, Rejected(3), self.cabinet.attempt, GOOD_EDITS[:3] + [("drop", 9)], watch=watch)
        self.check_seen(watch, 3)
        check_all(self, self.cabinet, self.model)

    def test_the_queries_work_meanwhile(self):
        model = Model(D, W)
        model.done.extend(self.model.done)

        def watch(cabinet):
            model.done.append(GOOD_EDITS[len(model.done) - len(self.model.done)])
            check_all(self, cabinet, model)
            self.assertIs(cabinet == Cabinet(*model.state()), True)
            self.assertEqual(Cabinet.read("7 for 3").stock, ((7,),))

        self.assertEqual(self.cabinet.attempt(GOOD_EDITS, watch=watch), len(GOOD_EDITS))
        check_all(self, self.cabinet, model)

    def busy_calls(self, cabinet):
        """Calls that are refused while watch runs, also where they would be refused later, too."""
        for edit in GOOD_EDITS + [("put", 9, 9, 99), ("remove", None, None, None), ("wish", None),
                                  ("drop", -1)]:
            check_raises(self, Busy(), do, cabinet, edit)
        check_raises(self, Busy(), cabinet.undo)
        for batch in [[], (), GOOD_EDITS, [("drop", 9)], None, [None], [None] * 30]:
            check_raises(self, Busy(), cabinet.attempt, batch)
            check_raises(self, Busy(), cabinet.attempt, batch, watch=Watcher())

    def test_the_cabinet_is_busy_meanwhile(self):
        model = Model(D, W)
        model.done.extend(self.model.done)

        def watch(cabinet):
            model.done.append(GOOD_EDITS[len(model.done) - len(self.model.done)])
            self.busy_calls(cabinet)
            check_now(self, cabinet, model)
            self.busy_calls(self.cabinet)

        self.assertEqual(self.cabinet.attempt(GOOD_EDITS, watch=watch), len(GOOD_EDITS))
        check_all(self, self.cabinet, model)

    def test_busy_comes_before_too_many_edits_and_nothing_to_undo(self):
        while len(self.cabinet) < MAX_EDITS - 1:
            do_both(self, self.cabinet, self.model, [("wish", (1, 1)), ("drop", 0)][
                len(self.cabinet) % 2 == 0])
        watch = Watcher()
        self.cabinet.attempt([("put", 0, 0, 1)], watch=self.busy_calls)
        self.assertEqual(len(self.cabinet), MAX_EDITS)
        check_raises(self, TooManyEdits(), self.cabinet.put, 0, 0, 1)
        check_raises(self, Rejected(0), self.cabinet.attempt, [("put", 0, 0, 1)], watch=watch)
        self.assertEqual(watch.seen, [])

    def test_busy_propagates_if_watch_does_not_catch_it(self):
        for call in (lambda cabinet: cabinet.undo(), lambda cabinet: cabinet.put(0, 0, 1),
                     lambda cabinet: cabinet.attempt([]), lambda cabinet: cabinet.drop(0)):
            check_raises(self, Busy(), self.cabinet.attempt, GOOD_EDITS, watch=call)
            check_all(self, self.cabinet, self.model)

    def test_the_cabinet_is_free_again_afterwards(self):
        self.cabinet.attempt([("put", 0, 0, 1)], watch=Watcher())
        self.model.done.append(("put", 0, 0, 1))
        for edit in GOOD_EDITS:
            do_both(self, self.cabinet, self.model, edit)
        undo_both(self, self.cabinet, self.model)
        check_all(self, self.cabinet, self.model)

    def test_a_cabinet_is_not_busy_before_and_between_watches(self):
        self.assertEqual(self.cabinet.attempt([("put", 0, 0, 1)] * 3, watch=Watcher()), 3)
        self.assertEqual(self.cabinet.attempt([("remove", 0, 0, 1)] * 3), 3)

    def test_another_cabinet_is_not_busy(self):
        other_model = Model(D, W)
        other = other_model.new()

        def watch(cabinet):
            do_both(self, other, other_model, ("put", 1, 1, 1))
            self.assertEqual(other.attempt([("put", 1, 0, 1)], watch=inner), 1)
            other_model.done.append(("put", 1, 0, 1))
            undo_both(self, other, other_model)
            check_raises(self, Rejected(0), other.attempt, [("drop", 0)])
            check_now(self, other, other_model)
            check_raises(self, Busy(), cabinet.undo)

        def inner(cabinet):
            self.assertIs(cabinet, other)
            check_raises(self, Busy(), other.undo)
            check_raises(self, Busy(), self.cabinet.put, 0, 0, 1)

        self.assertEqual(self.cabinet.attempt(GOOD_EDITS, watch=watch), len(GOOD_EDITS))
        self.model.done.extend(GOOD_EDITS)
        check_all(self, self.cabinet, self.model)
        check_all(self, other, other_model)

    def test_an_equal_cabinet_is_not_busy(self):
        other = Cabinet(D, W)
        done = self.cabinet.attempt(GOOD_EDITS, watch=lambda cabinet: other.put(0, 0, 1) and None)
        self.assertEqual([done, len(other)], [len(GOOD_EDITS)] * 2)

    def test_each_query_again_after_an_error(self):
        first = [self.cabinet.state(), self.cabinet.edits(), list(self.cabinet.walk()),
                 self.cabinet.certificate((2, 2)), str(self.cabinet), self.cabinet.sure]
        self.check_raised(Stop(), 4)
        check_raises(self, Rejected(5), self.cabinet.attempt, GOOD_EDITS + [("drop", 9)])
        again = [self.cabinet.state(), self.cabinet.edits(), list(self.cabinet.walk()),
                 self.cabinet.certificate((2, 2)), str(self.cabinet), self.cabinet.sure]
        self.assertEqual(shape(again), shape(first))


class ScriptTest(unittest.TestCase):
    """Thrown batches, against the model."""

    def expected(self, model, batch, stop):
        """What attempt does: the number of edits done, or the error; the model does them, too."""
        before = list(model.done)
        for index, edit in enumerate(batch):
            if model.error(edit) is not None:
                model.done = before
                return Rejected(index)
            model.done.append(edit)
            if index == stop:
                return index + 1
        return len(batch)

    def test_thrown_batches(self):
        dice = Dice(101)
        outcomes = {int: 0, Rejected: 0}
        for most in (None, 9, 20):
            for _ in range(25):
                model = Model(((2, 1), (1, 3)), ((1, 1), (2, 0)), most)
                cabinet = model.new()
                for _ in range(8):
                    batch = [thrown_edit(dice, model) for _ in range(dice.throw(5))]
                    stop = dice.throw(6)
                    expected = self.expected(model, batch, stop)
                    outcomes[type(expected)] += 1
                    if type(expected) is int:
                        self.assertEqual(cabinet.attempt(batch, watch=Watcher(stop)), expected)
                    else:
                        check_raises(self, expected, cabinet.attempt, batch, watch=Watcher(stop))
                    check_now(self, cabinet, model)
                    if model.done and dice.throw(2) == 0:
                        undo_both(self, cabinet, model)
                check_all(self, cabinet, model)
        self.assertGreater(min(outcomes.values()), 100)


if __name__ == "__main__":
    unittest.main()
