import inspect
import itertools
import unittest

from darkdrawers import errors
from darkdrawers.bounds import LIMIT, MAX_COLLECTIONS, MAX_COUNT, MAX_EDITS
from darkdrawers.cabinets import Cabinet, HandCabinet
from darkdrawers.errors import (
    BadCollection, BadCount, BadPlan, BadStock, BadText, BadWish, LastCollection, NoCollection,
    NoDrawer, NoKind, NothingToUndo, NoVersion, TooFew, TooManyCollections, TooManyEdits, TooMuch)
from darkdrawers.hands import Hand
from darkdrawers.plans import certificate_holds, find_certificate, sure_total
from darkdrawers.stocks import stock_error
from darkdrawers.values import Heap, Wish
from tests import brute
from tests.model import (
    Model, check_all, check_now, check_versions, check_walk, do, do_both, thrown_edit, undo_both)
from tests.samples import (
    EDGE_CASES, FULL, STRANGE_VALUES, D, Dice, W, check_raises, in_bools, in_lists, shape,
    small_cases, with_one_part_replaced)

# Values that are not a number, whatever its limits.
NO_NUMBERS = [value for value in STRANGE_VALUES if type(value) is not int] + [
    (0,), (1,), "0", "1", [0], {"0": 0}, Heap((1,)), ((1,),)]


def unchanged_after(test, cabinet, model, wrong, edit):
    """Tests that the edit raises this error and that the cabinet is as before."""
    check_raises(test, wrong, do, cabinet, edit)
    check_now(test, cabinet, model)


class NewCabinetTest(unittest.TestCase):
    def test_example(self):
        cabinet = Cabinet(D, W)
        self.assertEqual(
            [cabinet.stock == D, cabinet.collections, cabinet.sure, len(cabinet)],
            [True, ((1, 1),), 5, 0])

    def test_example_of_most_edits(self):
        self.assertEqual([Cabinet.MOST_EDITS, Cabinet(((7,),), ((3,),)).sure], [60, 3])

    def test_most_edits_is_a_value_of_the_class(self):
        self.assertEqual(shape(Cabinet.MOST_EDITS), shape(MAX_EDITS))
        self.assertEqual(Cabinet(D, W).MOST_EDITS, MAX_EDITS)
        self.assertEqual(HandCabinet.MOST_EDITS, MAX_EDITS)

    def test_many_cabinets(self):
        for stock, collections in small_cases() + [(FULL, FULL)]:
            check_all(self, Cabinet(stock, collections), Model(stock, collections))

    def test_wrong_stocks(self):
        for value in STRANGE_VALUES + [
                (), ((),), ((51,),), ((-1,),), ((1,), (1, 2)), ((1,),) * 5, ((1,) * 5,), [D], [[1]],
                [(1,)], ([1],), ((True,),), ((1, False),), (("1",),), D[0], ((2, 1), (1,)),
                ((2, 1), (1, 3), None), Heap((1, 1)), (Heap((1, 1)),), "2,1 1,3"]:
            with self.subTest(value=value):
                self.assertIsNotNone(stock_error(value))
                check_raises(self, BadStock(stock_error(value)), Cabinet, value, W)

    def test_errors_of_wrong_stocks(self):
        for value, error in [((), (None, "stock")), (((51,),), (0, "drawer")),
                             (((2, 1), (1,)), (1, "drawer")), (None, (None, "stock")),
                             (((1,), (1,), (1,), (-1,)), (3, "drawer"))]:
            check_raises(self, BadStock(error), Cabinet, value, W)

    def test_stocks_with_one_part_replaced(self):
        for value in with_one_part_replaced(D):
            error = stock_error(value)
            if error is not None:
                check_raises(self, BadStock(error), Cabinet, value, W)

    def test_wrong_collections(self):
        for value in STRANGE_VALUES + [
                (), ((),), ((0, 0),), ((1, 1), (0, 0)), ((1,),), ((1, 1, 1),), ((1, 1), (1,)),
                ((1, 51),), ((-1, 1),), ((1, True),), ((1, 1),) * 5, [(1, 1)], ([1, 1],), (1, 1),
                ((1, "1"),), (Heap((1, 1)),), Heap((1, 1)), Wish(2, W), "1,1"]:
            with self.subTest(value=value):
                check_raises(self, BadWish(value), Cabinet, D, value)

    def test_collections_with_one_part_replaced(self):
        for value in with_one_part_replaced(W):
            good = type(value) is tuple and 1 <= len(value) <= 4 and all(
                brute.are_ints(row, 2) and 0 <= min(row) and 0 < max(row) <= 50 for row in value)
            if good:
                self.assertEqual(Cabinet(D, value).collections, value)
            else:
                check_raises(self, BadWish(value), Cabinet, D, value)

    def test_a_wrong_stock_comes_first(self):
        for stock in [None, (), ((51,),), [(1,)], ((1,), (1, 1))]:
            for collections in [None, (), ((0,),), W, ((1, 1, 1),)]:
                check_raises(self, BadStock(stock_error(stock)), Cabinet, stock, collections)

    def test_numbers_then_bools_then_numbers_again(self):
        stock, collections = ((0, 1), (1, 1)), ((0, 1), (1, 0))
        for _ in range(2):
            self.assertEqual(Cabinet(stock, collections).state(), (stock, collections))
            check_raises(self, BadStock((0, "drawer")), Cabinet, in_bools(stock), collections)
            check_raises(self, BadWish(in_bools(collections)), Cabinet, stock, in_bools(collections))
            check_raises(self, BadWish(in_lists(collections)), Cabinet, stock, in_lists(collections))

    def test_attributes_are_set_on_each_object(self):
        for cabinet in [Cabinet(D, W), HandCabinet(D, W, 9)]:
            self.assertLessEqual({"stock", "collections", "sure"}, set(vars(cabinet)))
            self.assertNotIn("MOST_EDITS", vars(cabinet))


class EditTest(unittest.TestCase):
    def test_example(self):
        cabinet = Cabinet(D, W)
        self.assertEqual(
            [cabinet.put(0, 1, 2), cabinet.sure, cabinet.wish((3, 0)), cabinet.sure,
             cabinet.drop(0), cabinet.sure],
            [1, 7, 2, 7, 3, 9])

    def test_example_of_undo(self):
        cabinet = Cabinet(D, W)
        self.assertEqual(
            [cabinet.remove(1, 1, 3), cabinet.stock, cabinet.sure, cabinet.undo(), cabinet.sure],
            [1, ((2, 1), (1, 0)), 4, 0, 5])

    def test_each_drawer_and_kind(self):
        stock = ((3, 3, 3, 3),) * 4
        for name, (drawer, kind) in itertools.product(
                ("put", "remove"), itertools.product(range(4), range(4))):
            cabinet, model = Cabinet(stock, ((1, 1, 1, 1),)), Model(stock, ((1, 1, 1, 1),))
            self.assertTrue(do_both(self, cabinet, model, (name, drawer, kind, 2)))
            check_all(self, cabinet, model)
            undo_both(self, cabinet, model)
            check_all(self, cabinet, model)

    def test_each_count(self):
        for name, things in [("put", 0), ("remove", MAX_COUNT), ("put", 20), ("remove", 20)]:
            for count in range(-2, MAX_COUNT + 3):
                cabinet, model = Cabinet(((things,),), ((1,),)), Model(((things,),), ((1,),))
                do_both(self, cabinet, model, (name, 0, 0, count))
                check_all(self, cabinet, model)

    def test_put_exactly_as_many_as_may_be_and_one_more(self):
        for things in (0, 1, 25, 49, MAX_COUNT):
            for count in range(1, MAX_COUNT + 1):
                cabinet = Cabinet(((7, things),), W)
                if things + count <= MAX_COUNT:
                    self.assertEqual(cabinet.put(0, 1, count), 1)
                    self.assertEqual(cabinet.stock, ((7, things + count),))
                else:
                    check_raises(self, TooMuch(things + count), cabinet.put, 0, 1, count)
                    self.assertEqual([cabinet.stock, len(cabinet)], [((7, things),), 0])

    def test_remove_exactly_as_many_as_there_are_and_one_more(self):
        stock = ((4, 9), (0, 2))
        for drawer, kind in itertools.product(range(2), range(2)):
            for count in range(1, 12):
                cabinet, model = Cabinet(stock, W), Model(stock, W)
                if count > stock[drawer][kind]:
                    unchanged_after(self, cabinet, model, TooFew(kind), ("remove", drawer, kind, count))
                else:
                    do_both(self, cabinet, model, ("remove", drawer, kind, count))
                    check_all(self, cabinet, model)

    def test_everything_is_taken_out(self):
        cabinet, model = Cabinet(D, W), Model(D, W)
        for drawer, kind in itertools.product(range(2), range(2)):
            do_both(self, cabinet, model, ("remove", drawer, kind, D[drawer][kind]))
            check_all(self, cabinet, model)
        self.assertEqual([cabinet.stock, cabinet.sure], [((0, 0), (0, 0)), None])

    def test_wish_up_to_four_collections(self):
        cabinet, model = Cabinet(D, W), Model(D, W)
        for collection in [(3, 0), (1, 1), (0, MAX_COUNT), (2, 2), (1, 0)]:
            do_both(self, cabinet, model, ("wish", collection))
            check_all(self, cabinet, model)
        self.assertEqual(cabinet.collections, ((1, 1), (3, 0), (1, 1), (0, MAX_COUNT)))
        unchanged_after(self, cabinet, model, TooManyCollections(), ("wish", (1, 1)))

    def test_drop_each_collection(self):
        collections = ((1, 1), (3, 0), (1, 1), (0, 2))
        for many in range(1, MAX_COLLECTIONS + 1):
            for index in range(many):
                cabinet, model = Cabinet(D, collections[:many]), Model(D, collections[:many])
                if many == 1:
                    unchanged_after(self, cabinet, model, LastCollection(), ("drop", index))
                else:
                    do_both(self, cabinet, model, ("drop", index))
                    check_all(self, cabinet, model)
                    undo_both(self, cabinet, model)
                    check_all(self, cabinet, model)

    def test_sixty_edits_and_one_more(self):
        cabinet, model = Cabinet(D, W), Model(D, W)
        for number in range(MAX_EDITS):
            edit = [("put", 0, 0, 1), ("wish", (1, 2)), ("remove", 0, 0, 1), ("drop", 1)][number % 4]
            self.assertTrue(do_both(self, cabinet, model, edit))
        check_all(self, cabinet, model)
        for edit in [("put", 0, 0, 1), ("remove", 0, 0, 1), ("wish", (1, 1)), ("drop", 0),
                     ("put", 9, 9, 99), ("remove", None, None, None), ("wish", None), ("drop", 7)]:
            unchanged_after(self, cabinet, model, TooManyEdits(), edit)
        undo_both(self, cabinet, model)
        do_both(self, cabinet, model, ("put", 1, 1, 1))
        unchanged_after(self, cabinet, model, TooManyEdits(), ("put", 0, 0, 1))
        while model.done:
            undo_both(self, cabinet, model)
            check_now(self, cabinet, model)
        check_all(self, cabinet, model)
        unchanged_after(self, cabinet, model, NothingToUndo(), ("undo",))

    def test_undo_without_edits(self):
        cabinet, model = Cabinet(D, W), Model(D, W)
        for _ in range(3):
            unchanged_after(self, cabinet, model, NothingToUndo(), ("undo",))
        cabinet.put(0, 0, 1)
        self.assertEqual(cabinet.undo(), 0)
        unchanged_after(self, cabinet, model, NothingToUndo(), ("undo",))

    def test_edits_that_raise_an_error_do_not_count(self):
        cabinet, model = Cabinet(D, W), Model(D, W)
        for _ in range(MAX_EDITS + 5):
            check_raises(self, LastCollection(), cabinet.drop, 0)
            check_raises(self, TooFew(1), cabinet.remove, 0, 1, 2)
        check_all(self, cabinet, model)

    def test_edits_return_the_version_as_a_number(self):
        cabinet = Cabinet(D, W)
        answers = [cabinet.put(0, 0, 1), cabinet.remove(0, 0, 1), cabinet.wish((1, 1)),
                   cabinet.drop(0), cabinet.undo(), cabinet.undo(), cabinet.put(0, 0, 1)]
        self.assertEqual(shape(answers), "[1, 2, 3, 4, 3, 2, 3]")


class EditErrorTest(unittest.TestCase):
    def setUp(self):
        self.model = Model(D, ((1, 1), (3, 0)))
        self.cabinet = self.model.new()

    def check(self, wrong, *edit):
        unchanged_after(self, self.cabinet, self.model, wrong, edit)

    def test_drawers_that_there_are_not(self):
        for value in NO_NUMBERS + [-1, 2, 3, LIMIT, 10 ** 39, True, False]:
            for name in ("put", "remove"):
                self.check(NoDrawer(value), name, value, 0, 1)

    def test_kinds_that_there_are_not(self):
        for value in NO_NUMBERS + [-1, 2, 3, LIMIT, 10 ** 39, True, False]:
            for name in ("put", "remove"):
                self.check(NoKind(value), name, 0, value, 1)

    def test_wrong_counts(self):
        for value in NO_NUMBERS + [-1, 0, 51, 52, LIMIT, 10 ** 39, True, False]:
            for name in ("put", "remove"):
                self.check(BadCount(value), name, 0, 0, value)

    def test_the_first_of_several_errors(self):
        wrong = [-1, 2, None, True, "0", (0,), [0], Heap((1,))]
        counts = [0, 51, None, True, "1", (1,), [1]]
        for name in ("put", "remove"):
            for drawer, kind, count in itertools.product(wrong, wrong + [0], counts + [1, 50]):
                self.check(NoDrawer(drawer), name, drawer, kind, count)
            for kind, count in itertools.product(wrong, counts + [1, 50]):
                self.check(NoKind(kind), name, 1, kind, count)
            for count in counts:
                self.check(BadCount(count), name, 1, 1, count)
        self.check(TooMuch(53), "put", 1, 1, 50)
        self.check(TooMuch(51), "put", 0, 0, 49)
        self.check(TooFew(1), "remove", 1, 1, 50)
        self.check(TooFew(0), "remove", 1, 0, 2)

    def test_wrong_collections(self):
        for value in STRANGE_VALUES + [
                (), (0, 0), (1,), (1, 1, 1), (51, 1), (1, -1), (-1, 2), (1, True), (False, 1),
                (1, None), (1, "1"), ((1, 1),), [1, 1], W, "1,1", {"0": 1}, Heap((1, 1)),
                Wish(2, W), (10 ** 39, 1), (True, True)]:
            self.check(BadCollection(value), "wish", value)

    def test_collections_with_one_part_replaced(self):
        for value in with_one_part_replaced((3, 1)):
            good = brute.are_ints(value, 2) and 0 <= min(value) and 0 < max(value) <= 50
            if good:
                self.assertEqual([self.cabinet.wish(value), self.cabinet.undo()], [1, 0])
            else:
                check_raises(self, BadCollection(value), self.cabinet.wish, value)
        check_all(self, self.cabinet, self.model)

    def test_wrong_collections_come_before_too_many(self):
        self.model = Model(D, ((1, 1),) * 4)
        self.cabinet = self.model.new()
        for value in [None, (0, 0), (1,), [1, 1], (True, 1), (51, 0)]:
            self.check(BadCollection(value), "wish", value)
        self.check(TooManyCollections(), "wish", (1, 1))

    def test_collections_that_there_are_not(self):
        for value in NO_NUMBERS + [-1, -2, 2, 3, 4, LIMIT, 10 ** 39, True, False]:
            self.check(NoCollection(value), "drop", value)

    def test_no_collection_comes_before_the_last_one(self):
        self.model = Model(D, W)
        self.cabinet = self.model.new()
        for value in NO_NUMBERS + [-1, 1, 2, True, False]:
            self.check(NoCollection(value), "drop", value)
        self.check(LastCollection(), "drop", 0)

    def test_after_edits_the_present_state_counts(self):
        self.cabinet.put(0, 0, 48)
        self.model.done.append(("put", 0, 0, 48))
        self.check(TooMuch(51), "put", 0, 0, 1)
        do_both(self, self.cabinet, self.model, ("remove", 0, 1, 1))
        self.check(TooFew(1), "remove", 0, 1, 1)
        do_both(self, self.cabinet, self.model, ("drop", 1))
        self.check(NoCollection(1), "drop", 1)
        self.check(LastCollection(), "drop", 0)
        for _ in range(3):
            undo_both(self, self.cabinet, self.model)
        check_all(self, self.cabinet, self.model)


class ScriptTest(unittest.TestCase):
    """Thrown edits and undos, against the model at each step."""

    def run_script(self, dice, model, steps):
        cabinet = model.new()
        stood = 0
        for _ in range(steps):
            if dice.throw(4) == 0:
                undo_both(self, cabinet, model)
            else:
                stood += do_both(self, cabinet, model, thrown_edit(dice, model))
            check_now(self, cabinet, model)
        check_all(self, cabinet, model)
        return stood

    def test_small_cabinets(self):
        dice = Dice(73)
        stood = 0
        for stock, collections in small_cases()[::3]:
            stood += self.run_script(dice, Model(stock, collections), 30)
        self.assertGreater(stood, 500)

    def test_large_cabinets(self):
        dice = Dice(79)
        for _ in range(6):
            stock = dice.stock(4, 4, MAX_COUNT)
            self.run_script(dice, Model(stock, dice.collections(2, 4, MAX_COUNT)), 25)

    def test_walk_and_versions_after_each_step(self):
        dice = Dice(83)
        model = Model(D, W)
        cabinet = model.new()
        for _ in range(60):
            if dice.throw(5) == 0:
                undo_both(self, cabinet, model)
            else:
                do_both(self, cabinet, model, thrown_edit(dice, model))
            check_walk(self, cabinet, model)
            check_versions(self, cabinet, model)

    def test_sure_is_what_sure_total_returns(self):
        dice = Dice(89)
        model = Model(((2, 1), (0, 2), (1, 1)), ((2, 1),))
        cabinet = model.new()
        found = set()
        for _ in range(150):
            do_both(self, cabinet, model, thrown_edit(dice, model))
            if dice.throw(2) == 0:
                undo_both(self, cabinet, model)
            self.assertEqual(shape(cabinet.sure), shape(sure_total(cabinet.stock, cabinet.collections)))
            found.add(cabinet.sure)
        self.assertIn(None, found)
        self.assertGreater(len(found), 4)

    def test_two_cabinets_side_by_side(self):
        dice = Dice(97)
        models = [Model(D, W), Model(D, W), Model(((7,),), ((3,),))]
        cabinets = [model.new() for model in models]
        for _ in range(150):
            at = dice.throw(2)
            if dice.throw(5) == 0:
                undo_both(self, cabinets[at], models[at])
            else:
                do_both(self, cabinets[at], models[at], thrown_edit(dice, models[at]))
            for cabinet, model in zip(cabinets, models):
                check_now(self, cabinet, model)


class QueryTest(unittest.TestCase):
    def test_examples(self):
        cabinet = Cabinet(((7,),), ((3,),))
        self.assertEqual([cabinet.put(0, 0, 2), cabinet.state(), cabinet.state(version=0)],
                         [1, (((9,),), ((3,),)), (((7,),), ((3,),))])
        self.assertEqual(Cabinet(D, W).certificate((2, 1)), ("draw", ((2, 0), (1, 0))))
        self.assertEqual(list(Cabinet(D, W).walk()), [((0,), 4), ((1,), 3)])
        cabinet = Cabinet(((7,),), ((3,),))
        self.assertEqual([cabinet.put(0, 0, 2), cabinet.edits()], [1, (("put", 0, 0, 2),)])
        cabinet = Cabinet.read("2,1 1,3 for 1,1")
        self.assertEqual([cabinet.stock, cabinet.collections], [((2, 1), (1, 3)), ((1, 1),)])
        self.assertEqual([str(Cabinet(D, W)), Cabinet(D, W) == Cabinet(D[::-1], W)],
                         ["2 drawers, 2 kinds, 7 things, 1 collections, 0 edits", False])

    def edited(self):
        cabinet = Cabinet(D, W)
        cabinet.put(0, 0, 5)
        cabinet.wish((3, 0))
        cabinet.remove(1, 1, 3)
        cabinet.drop(0)
        return cabinet

    def test_state_at_every_version(self):
        states = [(D, W), (((7, 1), (1, 3)), W), (((7, 1), (1, 3)), ((1, 1), (3, 0))),
                  (((7, 1), (1, 0)), ((1, 1), (3, 0))), (((7, 1), (1, 0)), ((3, 0),))]
        cabinet = self.edited()
        for _ in range(2):
            self.assertEqual([cabinet.state(version=version) for version in range(5)], states)
            self.assertEqual([cabinet.state(), cabinet.state(version=None)], [states[4]] * 2)
        for version in (3, 2, 1, 0):
            cabinet.undo()
            self.assertEqual(cabinet.state(), states[version])
            check_raises(self, NoVersion(version + 1), cabinet.state, version=version + 1)
        cabinet.wish((0, 1))
        self.assertEqual(cabinet.state(version=1), (D, W + ((0, 1),)))

    def test_versions_that_there_are_not(self):
        cabinet = self.edited()
        for value in NO_NUMBERS + [-1, 5, 6, LIMIT, 10 ** 39, True, False]:
            if value is not None:
                check_raises(self, NoVersion(value), cabinet.state, version=value)
                for plan in [(1, 1), None, (99, 99), "1,1"]:
                    check_raises(self, NoVersion(value), cabinet.certificate, plan, version=value)
        self.assertEqual(len(cabinet), 4)

    def test_the_version_is_passed_by_keyword(self):
        cabinet = self.edited()
        self.assertRaises(TypeError, cabinet.state, 1)
        self.assertRaises(TypeError, cabinet.certificate, (1, 1), 1)

    def test_certificate_at_every_version(self):
        cabinet = self.edited()
        for version in [None, 0, 1, 2, 3, 4]:
            stock, collections = cabinet.state(version=version)
            for plan in brute.plans_of(stock):
                certificate = cabinet.certificate(plan, version=version)
                self.assertEqual(shape(certificate),
                                 shape(find_certificate(stock, collections, plan)))
                self.assertIs(certificate_holds(stock, collections, plan, certificate), True)

    def test_plans_that_are_none(self):
        cabinet = self.edited()
        for value in STRANGE_VALUES + [
                (), (1,), (1, 1, 1), (9, 0), (0, 2), (-1, 0), (0, -1), (True, 1), (1, False),
                [1, 1], "1,1", (1, "1"), ((1, 1),), Heap((1, 1))]:
            with self.subTest(value=value):
                check_raises(self, BadPlan(value), cabinet.certificate, value)
                check_raises(self, BadPlan(value), cabinet.certificate, value, version=4)

    def test_a_plan_for_another_version_is_none_for_this_one(self):
        cabinet = self.edited()
        self.assertEqual(cabinet.certificate((8, 1))[0], "table")
        check_raises(self, BadPlan((8, 1)), cabinet.certificate, (8, 1), version=0)
        self.assertEqual(cabinet.certificate((3, 4), version=0)[0], "table")
        check_raises(self, BadPlan((3, 4)), cabinet.certificate, (3, 4))
        check_raises(self, BadPlan((3, 4)), cabinet.certificate, (3, 4), version=3)

    def test_walk(self):
        for stock, collections in small_cases() + [(FULL, FULL), (FULL, ((1, 2, 3, 4),))]:
            check_walk(self, Cabinet(stock, collections), Model(stock, collections))

    def test_walk_is_a_generator_that_changes_nothing(self):
        self.assertTrue(inspect.isgeneratorfunction(Cabinet.walk))
        cabinet = self.edited()
        model = Model(D, W)
        model.done = list(cabinet.edits())
        walk = cabinet.walk()
        self.assertTrue(inspect.isgenerator(walk))
        self.assertEqual(next(walk), ((0,), 3))
        check_all(self, cabinet, model)
        self.assertEqual(list(walk), [])
        pairs = [(one, two) for one in cabinet.walk() for two in cabinet.walk()]
        self.assertEqual(pairs, [(((0,), 3), ((0,), 3))])
        check_all(self, cabinet, model)

    def test_the_greatest_room_of_the_walk_is_below_sure(self):
        for stock, collections in small_cases():
            cabinet = Cabinet(stock, collections)
            if cabinet.sure is not None:
                self.assertEqual(cabinet.sure, 1 + max(room for _, room in cabinet.walk()))

    def test_edits(self):
        cabinet = Cabinet(D, W)
        self.assertEqual(shape(cabinet.edits()), "()")
        cabinet = self.edited()
        edits = (("put", 0, 0, 5), ("wish", (3, 0)), ("remove", 1, 1, 3), ("drop", 0))
        self.assertEqual(shape(cabinet.edits()), shape(edits))
        cabinet.undo()
        self.assertEqual(shape(cabinet.edits()), shape(edits[:3]))
        again = Cabinet(D, W)
        self.assertEqual(again.attempt(edits), 4)
        self.assertEqual(again.edits(), edits)

    def test_read(self):
        for stock, collections in small_cases()[::5]:
            text = " ".join([",".join(map(str, row)) for row in stock] + ["for"]
                            + [",".join(map(str, row)) for row in collections])
            cabinet = Cabinet.read(text)
            self.assertIs(type(cabinet), Cabinet)
            check_all(self, cabinet, Model(stock, collections))

    def test_read_gives_a_new_cabinet_each_time(self):
        one, other = Cabinet.read("7 for 3"), Cabinet.read("7 for 3")
        one.put(0, 0, 1)
        self.assertEqual([one.stock, other.stock], [((8,),), ((7,),)])

    def test_read_is_a_class_method(self):
        self.assertIsInstance(vars(Cabinet)["read"], classmethod)

    def test_read_raises_the_errors_of_texts(self):
        for text, index in [("", 0), ("2,1 1,3 for 1,1 0,0", 4), ("2,1 1 for 1,1", 1), ("7", 1),
                            ("7 for", 2), ("for 3", 0), ("51 for 3", 0), ("7 for 3 ", 3)]:
            check_raises(self, BadText(index), Cabinet.read, text)
        for value in STRANGE_VALUES:
            if type(value) is not str:
                check_raises(self, BadText(None), Cabinet.read, value)


class EqualTest(unittest.TestCase):
    def test_equal_if_stock_and_collections_are(self):
        states = [(D, W), (D[::-1], W), (D, W * 2), (D, ((1, 1), (3, 0))), (D, ((3, 0), (1, 1))),
                  (((2, 1),), W), (((7,),), ((3,),)), (((7,),), ((4,),)), (((8,),), ((3,),))]
        for one, other in itertools.product(states, states):
            self.assertIs(Cabinet(*one) == Cabinet(*other), one == other)
            self.assertIs(Cabinet(*one) != Cabinet(*other), one != other)

    def test_whatever_their_edits(self):
        one, other = Cabinet(D, W), Cabinet(((3, 1), (1, 3)), W)
        self.assertIs(one == other, False)
        one.put(0, 0, 1)
        self.assertIs(one == other, True)
        other.wish((1, 1))
        self.assertIs(one == other, False)
        other.drop(1)
        self.assertIs(one == other, True)
        self.assertEqual([len(one), len(other)], [1, 2])

    def test_not_equal_to_anything_else(self):
        cabinet = Cabinet(((1, 1),), W)
        others = [(((1, 1),), W), [((1, 1),), W], str(cabinet), "1,1 for 1,1", Heap((1, 1)),
                  Wish(2, W), Hand(5), cabinet.state(), cabinet.edits(), len(cabinet), cabinet.sure]
        for value in STRANGE_VALUES + others:
            with self.subTest(value=value):
                self.assertIs(cabinet == value, False)
                self.assertIs(value == cabinet, False)
                self.assertIs(cabinet != value, True)

    def test_not_equal_to_an_object_with_such_attributes(self):
        class Other:
            stock, collections, sure = D, W, 5

        self.assertIs(Cabinet(D, W) == Other(), False)

    def test_equal_leaves_the_cabinets_as_they_are(self):
        model = Model(D, W)
        cabinet = model.new()
        do_both(self, cabinet, model, ("put", 0, 0, 1))
        for _ in range(2):
            self.assertFalse(cabinet == Cabinet(D, W))
            self.assertTrue(cabinet == cabinet)
            check_all(self, cabinet, model)


class PureTest(unittest.TestCase):
    def test_lists_that_are_refused_and_changed_later(self):
        cabinet = Cabinet(D, W)
        collection = [1, 1]
        check_raises(self, BadCollection(collection), cabinet.wish, collection)
        collection.append(1)
        self.assertEqual(cabinet.state(), (D, W))

    def test_results_are_not_the_cabinet(self):
        cabinet = Cabinet(D, W)
        before = [cabinet.stock, cabinet.collections, cabinet.state(), cabinet.edits()]
        kept = shape(before)
        cabinet.put(0, 0, 1)
        cabinet.wish((1, 1))
        self.assertEqual(shape(before), kept)

    def test_wrong_values_do_not_change(self):
        cabinet = Cabinet(D, W)
        for value in [[1, 1], {"a": [1]}, [[0]], [("put", 0, 0, 1)]]:
            kept = shape(value)
            for call in (cabinet.wish, cabinet.drop, cabinet.certificate, cabinet.read):
                with self.assertRaises((errors.DrawerError, LookupError)):
                    call(value)
            for at in range(3):
                values = [value if index == at else 1 for index in range(3)]
                with self.assertRaises((errors.DrawerError, LookupError)):
                    cabinet.put(*values)
            self.assertEqual(shape(value), kept)
        check_all(self, cabinet, Model(D, W))

    def test_the_answers_again_after_other_calls(self):
        cabinet = Cabinet(D, ((1, 1), (3, 0)))
        cabinet.put(1, 0, 2)

        def answers():
            return [cabinet.state(), cabinet.state(version=0), cabinet.certificate((2, 2)),
                    cabinet.certificate((2, 2), version=0), list(cabinet.walk()), cabinet.edits(),
                    len(cabinet), str(cabinet), cabinet.sure]

        first = answers()
        for stock, collections in EDGE_CASES:
            Cabinet(stock, collections).attempt([("put", 0, 0, 1)])
        self.assertEqual(shape(answers()), shape(first))
        cabinet.remove(0, 0, 1)
        cabinet.undo()
        self.assertEqual(shape(answers()), shape(first))


if __name__ == "__main__":
    unittest.main()
