import itertools
import unittest

from darkdrawers.bounds import LIMIT, MAX_COUNT, MAX_EDITS
from darkdrawers.cabinets import Cabinet, HandCabinet
from darkdrawers.errors import (
    BadCollection, BadCount, BadMost, BadStock, BadWish, Busy, LastCollection, NoCollection, NoDrawer,
    NoKind, NothingToUndo, Rejected, TooFew, TooFull, TooManyCollections, TooManyEdits, TooMuch)
from darkdrawers.hands import Hand
from darkdrawers.stocks import stock_error
from darkdrawers.values import Heap
from tests import brute
from tests.model import Model, check_all, check_now, do, do_both, thrown_edit, undo_both
from tests.samples import (
    EDGE_CASES, FULL, STRANGE_VALUES, D, Dice, W, check_raises, shape, small_cases)
from tests.test_hands import WRONG_NUMBERS


class NewHandCabinetTest(unittest.TestCase):
    def test_example(self):
        cabinet = HandCabinet(D, W, 5)
        self.assertEqual([cabinet.free(cabinet.sure), cabinet.put(0, 0, 1)], [0, 1])
        check_raises(self, TooFull(6), cabinet.put, 0, 1, 1)

    def test_it_is_a_cabinet_and_a_hand(self):
        self.assertTrue(issubclass(HandCabinet, Cabinet))
        self.assertTrue(issubclass(HandCabinet, Hand))
        self.assertFalse(issubclass(Cabinet, Hand))
        self.assertFalse(issubclass(Hand, Cabinet))
        cabinet = HandCabinet(D, W, 5)
        self.assertEqual([cabinet.stock, cabinet.collections, cabinet.sure, cabinet.most, len(cabinet)],
                         [D, W, 5, 5, 0])

    def test_sure_equal_to_most_and_one_more(self):
        for stock, collections in small_cases() + [(FULL, FULL)]:
            sure = brute.sure_by_rooms(stock, collections)
            for most in [0, LIMIT] if sure is None else [0, sure - 1, sure, sure + 1, LIMIT]:
                if sure is None or sure > most:
                    check_raises(self, TooFull(sure), HandCabinet, stock, collections, most)
                else:
                    model = Model(stock, collections, most)
                    check_all(self, model.new(), model)

    def test_a_most_of_nothing_is_never_enough(self):
        # A collection is never empty, so that at least one thing must be taken.
        check_raises(self, TooFull(1), HandCabinet, ((1,),), ((1,),), 0)
        check_raises(self, TooFull(None), HandCabinet, ((0,),), ((1,),), 0)
        self.assertEqual(HandCabinet(((1,),), ((1,),), 1).most, 1)

    def test_wrong_values(self):
        for value in WRONG_NUMBERS:
            with self.subTest(value=value):
                check_raises(self, BadMost(value), HandCabinet, D, W, value)

    def test_the_first_of_several_errors(self):
        mosts = [None, -1, LIMIT + 1, True, "5", 0, 4]
        for stock, most in itertools.product([None, (), ((51,),), [(2, 1)]], mosts):
            for collections in (None, (), W, ((9, 9),)):
                check_raises(self, BadStock(stock_error(stock)), HandCabinet, stock, collections, most)
        for collections, most in itertools.product([None, (), ((0, 0),), ((1,),), [(1, 1)]], mosts):
            check_raises(self, BadWish(collections), HandCabinet, D, collections, most)
        for collections, most in itertools.product([W, ((9, 9),)], mosts[:-2]):
            check_raises(self, BadMost(most), HandCabinet, D, collections, most)
        for most in mosts[-2:]:
            check_raises(self, TooFull(5), HandCabinet, D, W, most)
            check_raises(self, TooFull(None), HandCabinet, D, ((9, 9),), most)

    def test_attributes_are_set_on_each_object(self):
        cabinet = HandCabinet(D, W, 9)
        self.assertLessEqual({"stock", "collections", "sure", "most"}, set(vars(cabinet)))

    def test_str_and_queries_are_those_of_a_cabinet(self):
        one, other = HandCabinet(D, W, 9), Cabinet(D, W)
        for cabinet in (one, other):
            cabinet.put(0, 0, 2)
        self.assertEqual(str(one), "2 drawers, 2 kinds, 9 things, 1 collections, 1 edits")
        self.assertEqual(
            [str(one), len(one), one.state(), one.edits(), list(one.walk()), one.certificate((2, 2))],
            [str(other), len(other), other.state(), other.edits(), list(other.walk()),
             other.certificate((2, 2))])


class HandEditTest(unittest.TestCase):
    def check_unchanged(self, cabinet, model, wrong, edit):
        check_raises(self, wrong, do, cabinet, edit)
        check_now(self, cabinet, model)

    def test_each_kind_of_edit_to_most_and_one_more(self):
        for start, edit, sure in [
            ((D, W), ("put", 0, 1, 2), 7),
            ((D, W), ("put", 1, 0, 1), 5),
            ((D, ((3, 0), (0, 1))), ("remove", 1, 1, 1), 3),
            ((D, W), ("remove", 0, 0, 2), 5),
            ((D, W), ("wish", (3, 3)), 5),
            ((D, ((1, 1), (0, 3))), ("drop", 1), 5),
            ((D, ((3, 0), (0, 1))), ("drop", 1), 7),
        ]:
            with self.subTest(start=start, edit=edit):
                first = brute.sure_by_rooms(*start)
                for most in range(max(first, sure - 2), sure + 3):
                    model = Model(*start, most)
                    cabinet = model.new()
                    if most < sure:
                        self.check_unchanged(cabinet, model, TooFull(sure), edit)
                    else:
                        self.assertTrue(do_both(self, cabinet, model, edit))
                        self.assertEqual(cabinet.sure, sure)
                    check_all(self, cabinet, model)

    def test_sure_would_be_none(self):
        for most in (5, 50, LIMIT):
            model = Model(D, W, most)
            cabinet = model.new()
            self.assertTrue(do_both(self, cabinet, model, ("remove", 0, 0, 2)))
            self.check_unchanged(cabinet, model, TooFull(None), ("remove", 1, 0, 1))
            self.assertTrue(do_both(self, cabinet, model, ("wish", (0, 4))))
            self.assertTrue(do_both(self, cabinet, model, ("remove", 1, 0, 1)))
            self.check_unchanged(cabinet, model, TooFull(None), ("remove", 1, 1, 1))
            self.check_unchanged(cabinet, model, TooFull(None), ("drop", 1))
            check_all(self, cabinet, model)

    def test_own_errors_of_edits_come_first(self):
        model = Model(D, W, 5)
        cabinet = model.new()
        for edit, wrong in [
            (("put", 2, 1, 1), NoDrawer(2)), (("put", 0, 2, 1), NoKind(2)),
            (("put", 0, 1, 51), BadCount(51)), (("put", 0, 1, 50), TooMuch(51)),
            (("put", 0, 1, 49), TooFull(54)), (("put", 0, True, 1), NoKind(True)),
            (("remove", 1, 0, 2), TooFew(0)), (("remove", 0, 0, 3), TooFew(0)),
            (("wish", (0, 0)), BadCollection((0, 0))), (("wish", [1, 1]), BadCollection([1, 1])),
            (("drop", 1), NoCollection(1)), (("drop", 0), LastCollection()),
        ]:
            self.check_unchanged(cabinet, model, wrong, edit)
        check_all(self, cabinet, model)

    def test_too_many_collections_and_too_many_edits_come_first(self):
        model = Model(D, W * 4, 5)
        cabinet = model.new()
        self.check_unchanged(cabinet, model, TooManyCollections(), ("wish", (1, 1)))
        for number in range(MAX_EDITS):
            do_both(self, cabinet, model, [("put", 0, 0, 1), ("remove", 0, 0, 1)][number % 2])
        for edit in [("put", 0, 1, 1), ("remove", 0, 0, 2), ("wish", (1, 1)), ("drop", 0)]:
            self.check_unchanged(cabinet, model, TooManyEdits(), edit)
        self.check_unchanged(cabinet, model, TooManyEdits(), ("put", 0, 1, 49))

    def test_undo_past_a_state_with_a_greater_sure(self):
        model = Model(D, W, 5)
        cabinet = model.new()
        for edit in [("remove", 1, 1, 3), ("put", 1, 1, 1), ("put", 0, 0, 1), ("remove", 0, 0, 1)]:
            self.assertTrue(do_both(self, cabinet, model, edit))
        surest = [cabinet.sure]
        while model.done:
            undo_both(self, cabinet, model)
            check_all(self, cabinet, model)
            surest.append(cabinet.sure)
        self.assertEqual([surest[0], max(surest), surest[-1]], [4, 5, 5])
        check_raises(self, NothingToUndo(), cabinet.undo)

    def test_undo_to_a_sure_equal_to_most(self):
        cabinet = HandCabinet(D, W, 5)
        self.assertEqual([cabinet.remove(1, 1, 3), cabinet.sure, cabinet.undo(), cabinet.sure],
                         [1, 4, 0, 5])

    def test_scripts(self):
        dice = Dice(103)
        full = stood = 0
        for stock, collections in small_cases()[::2]:
            sure = brute.sure_by_rooms(stock, collections)
            if sure is None:
                continue
            model = Model(stock, collections, sure + dice.throw(4))
            cabinet = model.new()
            for _ in range(20):
                if dice.throw(5) == 0:
                    undo_both(self, cabinet, model)
                else:
                    edit = thrown_edit(dice, model)
                    full += type(model.error(edit)) is TooFull
                    stood += do_both(self, cabinet, model, edit)
                check_now(self, cabinet, model)
            check_all(self, cabinet, model)
        self.assertGreater(full, 100)
        self.assertGreater(stood, 200)

    def test_the_hand_has_no_say_in_other_cabinets(self):
        one, other = HandCabinet(D, W, 5), Cabinet(D, W)
        check_raises(self, TooFull(6), one.put, 0, 1, 1)
        self.assertEqual([other.put(0, 1, 1), other.sure], [1, 6])
        wide = HandCabinet(D, W, 6)
        self.assertEqual([wide.put(0, 1, 1), wide.sure, one.sure], [1, 6, 5])


class HandAttemptTest(unittest.TestCase):
    def setUp(self):
        self.model = Model(D, W, 6)
        self.cabinet = self.model.new()

    def test_too_full_is_one_of_the_errors_of_edits(self):
        for batch, index in [
            ([("put", 0, 1, 2)], 0), ([("put", 0, 1, 1), ("put", 0, 1, 1)], 1),
            ([("put", 0, 0, 1), ("wish", (1, 1)), ("put", 1, 1, 5), ("drop", 9)], 2),
            ([("remove", 0, 0, 2), ("remove", 1, 0, 1), ("put", 0, 0, 2)], 1),
            ([("wish", (3, 0)), ("drop", 0), ("put", 1, 1, 3)], 1),
        ]:
            check_raises(self, Rejected(index), self.cabinet.attempt, batch)
            check_all(self, self.cabinet, self.model)

    def test_batches_that_fit(self):
        batch = [("put", 0, 1, 1), ("remove", 0, 1, 1), ("wish", (0, 4)), ("put", 0, 0, 1)]
        self.assertEqual(self.cabinet.attempt(batch), 4)
        self.model.done.extend(batch)
        check_all(self, self.cabinet, self.model)
        while self.model.done:
            undo_both(self, self.cabinet, self.model)
            check_all(self, self.cabinet, self.model)

    def test_free_while_watch_runs(self):
        seen = []

        def watch(cabinet):
            self.assertIs(cabinet, self.cabinet)
            seen.append((cabinet.sure, cabinet.free(cabinet.sure), cabinet.free(6), cabinet.most))
            check_raises(self, TooFull(7), cabinet.free, 7)
            check_raises(self, BadMost(True), cabinet.free, True)
            check_raises(self, Busy(), cabinet.put, 0, 1, 1)
            check_raises(self, Busy(), cabinet.undo)

        batch = [("put", 0, 1, 1), ("remove", 1, 1, 3), ("put", 0, 0, 1)]
        self.assertEqual(self.cabinet.attempt(batch, watch=watch), 3)
        self.assertEqual(seen, [(6, 0, 0, 6), (4, 2, 0, 6), (5, 1, 0, 6)])

    def test_watch_stops_or_raises(self):
        batch = [("put", 0, 1, 1), ("put", 0, 1, 1)]
        self.assertEqual(self.cabinet.attempt(batch, watch=lambda cabinet: True), 1)
        self.assertEqual(self.cabinet.undo(), 0)
        for raised in (TooFull(3), TooFull(None), KeyError()):
            def watch(cabinet):
                raise raised

            with self.assertRaises(type(raised)) as held:
                self.cabinet.attempt(batch, watch=watch)
            self.assertIs(held.exception, raised)
            check_all(self, self.cabinet, self.model)


class FreeTest(unittest.TestCase):
    def test_as_on_any_hand(self):
        for most in (5, 6, 50, LIMIT):
            cabinet, hand = HandCabinet(D, W, most), Hand(most)
            for number in range(60):
                if number > most:
                    check_raises(self, TooFull(number), cabinet.free, number)
                else:
                    self.assertEqual(shape(cabinet.free(number)), shape(hand.free(number)))
            self.assertEqual(cabinet.free(most), 0)
            for value in WRONG_NUMBERS + [LIMIT + 1]:
                check_raises(self, BadMost(value), cabinet.free, value)
            check_now(self, cabinet, Model(D, W, most))

    def test_after_edits(self):
        cabinet = HandCabinet(D, W, 9)
        cabinet.put(0, 1, 4)
        self.assertEqual([cabinet.sure, cabinet.free(9), cabinet.free(0), cabinet.most], [9, 0, 9, 9])
        check_raises(self, TooFull(10), cabinet.put, 0, 1, 1)
        self.assertEqual([cabinet.undo(), cabinet.free(5)], [0, 4])


class EqualTest(unittest.TestCase):
    def test_hand_cabinets_of_each_most(self):
        for one, other in itertools.product((5, 6, LIMIT), repeat=2):
            self.assertIs(HandCabinet(D, W, one) == HandCabinet(D, W, other), one == other)
            self.assertIs(HandCabinet(D, W, one) != HandCabinet(D, W, other), one != other)

    def test_no_cabinet_equals_a_hand_cabinet(self):
        for stock, collections in EDGE_CASES:
            if brute.sure_by_rooms(stock, collections) is not None:
                one, other = Cabinet(stock, collections), HandCabinet(stock, collections, LIMIT)
                self.assertIs(one == other, False)
                self.assertIs(one.__eq__(other), False)
                self.assertIs(other == one, False)
                self.assertIs(one != other, True)
                self.assertIs(other != one, True)

    def test_stock_and_collections_count(self):
        one = HandCabinet(D, W, 9)
        for stock, collections in [(D[::-1], W), (D, W * 2), (((2, 1),), W), (D, ((1, 1), (3, 0)))]:
            self.assertIs(one == HandCabinet(stock, collections, 9), False)
        other = HandCabinet(((2, 0), (1, 3)), W, 9)
        self.assertIs(one == other, False)
        other.put(0, 1, 1)
        self.assertIs(one == other, True)
        self.assertEqual([len(one), len(other)], [0, 1])

    def test_not_equal_to_anything_else(self):
        cabinet = HandCabinet(D, W, 5)
        others = [Hand(5), 5, (D, W), (D, W, 5), str(cabinet), Heap((1, 1)), cabinet.state()]
        for value in STRANGE_VALUES + others:
            self.assertIs(cabinet == value, False)
            self.assertIs(value == cabinet, False)
            self.assertIs(cabinet != value, True)

    def test_lists_of_cabinets(self):
        cabinets = [Cabinet(D, W), HandCabinet(D, W, 5), HandCabinet(D, W, 6)]
        self.assertEqual([cabinets.index(cabinet) for cabinet in cabinets], [0, 1, 2])
        self.assertNotIn(HandCabinet(D, W, MAX_COUNT), cabinets)


if __name__ == "__main__":
    unittest.main()
