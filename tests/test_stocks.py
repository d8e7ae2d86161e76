import copy
import itertools
import unittest

from darkdrawers.bounds import MAX_COUNT, MAX_DRAWERS, MAX_KINDS
from darkdrawers.errors import DrawerError, TooMuch
from darkdrawers.stocks import is_stock, merged, sizes_of, stock_error, totals_of
from tests.samples import STRANGE_VALUES, nested, shape

D = ((2, 1), (1, 3))

GOOD_STOCKS = [
    D,
    ((0,),),
    ((1,),),
    ((MAX_COUNT,),),
    ((0, 0, 0, 0),),
    ((5,),) * MAX_DRAWERS,
    ((7,) * MAX_KINDS,),
    ((0, 1, 2, 3), (4, 5, 6, 7), (8, 9, 10, 11), (12, 13, 14, 15)),
    ((MAX_COUNT,) * MAX_KINDS,) * MAX_DRAWERS,
    ((0, 0), (0, 0), (0, 0)),
    ((49, 50), (0, 1), (1, 0)),
]

# Values with what stock_error must tell of them.
FAULTS = [
    ((), (None, "stock")),
    (((1,),) * (MAX_DRAWERS + 1), (None, "stock")),
    ([(1,)], (None, "stock")),
    ([(2, 1), (1, 3)], (None, "stock")),
    ({(1,): 1}, (None, "stock")),
    ({"a": (1,)}, (None, "stock")),
    ("12", (None, "stock")),
    (((),), (0, "drawer")),
    (((), ()), (0, "drawer")),
    (((1,) * (MAX_KINDS + 1),), (0, "drawer")),
    (((1,) * (MAX_KINDS + 1),) * 2, (0, "drawer")),
    (((-1,),), (0, "drawer")),
    (((MAX_COUNT + 1,),), (0, "drawer")),
    (((0, 0, 0, MAX_COUNT + 1),), (0, "drawer")),
    (((10 ** 39,),), (0, "drawer")),
    (((-(10 ** 39),),), (0, "drawer")),
    (((True,),), (0, "drawer")),
    (((False,),), (0, "drawer")),
    (((1, False),), (0, "drawer")),
    (((None,),), (0, "drawer")),
    ((("1",),), (0, "drawer")),
    ((((1,),),), (0, "drawer")),
    (([1],), (0, "drawer")),
    (([2, 1], (1, 3)), (0, "drawer")),
    (({"a": 1},), (0, "drawer")),
    (({},), (0, "drawer")),
    (("1",), (0, "drawer")),
    (("", (1,)), (0, "drawer")),
    ((1, 2), (0, "drawer")),
    ((None,), (0, "drawer")),
    (((1,), ()), (1, "drawer")),
    (((2, 1), (1,)), (1, "drawer")),
    (((2,), (1, 3)), (1, "drawer")),
    (((2, 1), (1, 3, 0)), (1, "drawer")),
    (((2, 1), [1, 3]), (1, "drawer")),
    (((2, 1), (1, True)), (1, "drawer")),
    (((2, 1), (False, 3)), (1, "drawer")),
    (((2, 1), (1, -1)), (1, "drawer")),
    (((2, 1), (MAX_COUNT + 1, 3)), (1, "drawer")),
    (((2, 1), "13"), (1, "drawer")),
    (((2, 1), None), (1, "drawer")),
    (((2, 1), {"1": 1, "3": 3}), (1, "drawer")),
    (((2, 1), 3, (1, 3)), (1, "drawer")),
    (((2, 1), (1, 3), (1, [3])), (2, "drawer")),
    (((2, 1), (1, 3), (0, 0), (0, 51)), (3, "drawer")),
]

# Values with several faults: the first one in the order of the document is told.
SEVERAL_FAULTS = [
    (((),) * (MAX_DRAWERS + 1), (None, "stock")),
    ([[True]], (None, "stock")),
    ([(), (1, 2)], (None, "stock")),
    (((), (51,)), (0, "drawer")),
    (((51,), (1, 2)), (0, "drawer")),
    (((1,) * (MAX_KINDS + 1), (1,), None), (0, "drawer")),
    (([1, 2], (1,), (-1, 1)), (0, "drawer")),
    (((1,), (1, 2), (51,)), (1, "drawer")),
    (((1,), (1,), [1], (1, 1)), (2, "drawer")),
    (((1, 2), (1,), (1,), (1,)), (1, "drawer")),
    (((1, 2), (1, 51), [], None), (1, "drawer")),
]

ALL_VALUES = (
    GOOD_STOCKS
    + STRANGE_VALUES
    + [value for value, _ in FAULTS + SEVERAL_FAULTS]
    + [nested(1, levels) for levels in range(1, 21)]
)


def expected_error(value):
    """What the document says of stock_error, for the exhaustive test."""
    if type(value) is not tuple or len(value) not in (1, 2, 3, 4):
        return (None, "stock")
    lengths = [1, 2, 3, 4]
    for index in range(len(value)):
        drawer = value[index]
        if type(drawer) is not tuple or len(drawer) not in lengths:
            return (index, "drawer")
        for count in drawer:
            if type(count) is not int or count not in range(51):
                return (index, "drawer")
        lengths = [len(drawer)]
    return None


class StockErrorTest(unittest.TestCase):
    def test_example(self):
        self.assertEqual(
            [is_stock(D), stock_error(((2, 1), (1,))), stock_error(((51,),)), stock_error(())],
            [True, (1, "drawer"), (0, "drawer"), (None, "stock")])

    def test_stocks_have_no_error(self):
        for value in GOOD_STOCKS:
            with self.subTest(value=value):
                self.assertIsNone(stock_error(value))

    def test_one_fault(self):
        for value, error in FAULTS:
            with self.subTest(value=value):
                self.assertEqual(shape(stock_error(value)), shape(error))

    def test_the_first_of_several_faults(self):
        for value, error in SEVERAL_FAULTS:
            with self.subTest(value=value):
                self.assertEqual(shape(stock_error(value)), shape(error))

    def test_strange_values_outside_and_inside(self):
        for value in STRANGE_VALUES:
            with self.subTest(value=value):
                self.assertEqual(stock_error(value), (None, "stock"))
                self.assertEqual(stock_error((value,)), (0, "drawer"))
                self.assertEqual(stock_error(((1,), (1,), value)), (2, "drawer"))

    def test_strange_counts(self):
        for value in STRANGE_VALUES:
            if type(value) is not int:
                with self.subTest(value=value):
                    self.assertEqual(stock_error(((value,),)), (0, "drawer"))
                    self.assertEqual(stock_error(((1, 1), (1, value))), (1, "drawer"))

    def test_nested_values(self):
        self.assertEqual(stock_error(nested(1, 1)), (0, "drawer"))
        self.assertIsNone(stock_error(nested(1, 2)))
        for levels in range(3, 21):
            with self.subTest(levels=levels):
                self.assertEqual(stock_error(nested(1, levels)), (0, "drawer"))

    def test_each_count_from_below_zero_to_above_the_greatest(self):
        for count in range(-3, MAX_COUNT + 4):
            error = None if 0 <= count <= MAX_COUNT else (0, "drawer")
            later = None if 0 <= count <= MAX_COUNT else (1, "drawer")
            with self.subTest(count=count):
                self.assertEqual(stock_error(((count,),)), error)
                self.assertEqual(stock_error(((1, 1), (1, count))), later)

    def test_each_number_of_drawers_and_kinds(self):
        for drawers in range(MAX_DRAWERS + 3):
            for kinds in range(MAX_KINDS + 3):
                value = ((1,) * kinds,) * drawers
                with self.subTest(drawers=drawers, kinds=kinds):
                    self.assertEqual(stock_error(value), expected_error(value))
                    self.assertEqual(is_stock(value), 1 <= drawers <= 4 and 1 <= kinds <= 4)

    def test_all_values_of_few_parts(self):
        parts = [
            (), (0,), (50,), (51,), (-1,), (True,), (0, 50), (50, 0), (0, 51), (1, False),
            (1, 2, 3, 4), (1, 2, 3, 4, 5), [0], [1, 2], 0, False, None, "0", {"0": 0},
        ]
        for drawers in range(4):
            for value in itertools.product(parts, repeat=drawers):
                self.assertEqual(shape(stock_error(value)), shape(expected_error(value)), value)
                self.assertIs(is_stock(value), expected_error(value) is None, value)


class IsStockTest(unittest.TestCase):
    def test_agrees_with_stock_error_and_returns_a_bool(self):
        for value in ALL_VALUES:
            with self.subTest(value=value):
                self.assertIs(is_stock(value), stock_error(value) is None)

    def test_stocks_and_others(self):
        for value in GOOD_STOCKS:
            with self.subTest(value=value):
                self.assertIs(is_stock(value), True)
        for value in STRANGE_VALUES + [value for value, _ in FAULTS + SEVERAL_FAULTS]:
            with self.subTest(value=value):
                self.assertIs(is_stock(value), False)

    def test_numbers_then_bools_then_numbers_again(self):
        numbers = ((0, 1), (1, 0))
        bools = ((False, True), (True, False))
        self.assertEqual(numbers, bools)
        for value, error in [(numbers, None), (bools, (0, "drawer")), (numbers, None),
                             (((0, 1), (True, 0)), (1, "drawer")), (numbers, None)]:
            self.assertEqual(stock_error(value), error)
            self.assertIs(is_stock(value), error is None)

    def test_arguments_do_not_change_and_answers_stay_the_same(self):
        for value in ALL_VALUES:
            if isinstance(value, Exception):
                continue
            kept = copy.deepcopy(value)
            with self.subTest(value=value):
                first = (is_stock(value), stock_error(value))
                self.assertEqual(shape((is_stock(value), stock_error(value))), shape(first))
                self.assertEqual(shape(value), shape(kept))


class SumsTest(unittest.TestCase):
    def test_example(self):
        self.assertEqual([totals_of(D), sizes_of(D)], [(3, 4), (3, 4)])

    def test_totals_are_by_kind_and_sizes_by_drawer(self):
        for stock, totals, sizes in [
            (((0,),), (0,), (0,)),
            (((7,),), (7,), (7,)),
            (((1, 2, 3, 4),), (1, 2, 3, 4), (10,)),
            (((1,), (2,), (3,), (4,)), (10,), (1, 2, 3, 4)),
            (((1, 2, 3), (10, 20, 30)), (11, 22, 33), (6, 60)),
            (((0, 0), (5, 0), (0, 6)), (5, 6), (0, 5, 6)),
            (((50,) * 4,) * 4, (200,) * 4, (200,) * 4),
        ]:
            with self.subTest(stock=stock):
                self.assertEqual(shape(totals_of(stock)), shape(totals))
                self.assertEqual(shape(sizes_of(stock)), shape(sizes))

    def test_all_things_are_counted_in_both(self):
        for stock in GOOD_STOCKS:
            with self.subTest(stock=stock):
                self.assertEqual(len(totals_of(stock)), len(stock[0]))
                self.assertEqual(len(sizes_of(stock)), len(stock))
                self.assertEqual(sum(totals_of(stock)), sum(sizes_of(stock)))

    def test_the_stock_does_not_change_and_answers_stay_the_same(self):
        for stock in GOOD_STOCKS:
            kept = copy.deepcopy(stock)
            first = (totals_of(stock), sizes_of(stock))
            with self.subTest(stock=stock):
                self.assertEqual((totals_of(stock), sizes_of(stock)), first)
                self.assertEqual(shape(stock), shape(kept))


class MergedTest(unittest.TestCase):
    FOUR = ((1, 2), (10, 20), (3, 4), (30, 5))

    def check_too_much(self, total, stock, *drawers):
        with self.assertRaises(DrawerError) as held:
            merged(stock, *drawers)
        self.assertIs(type(held.exception), TooMuch)
        self.assertIs(type(held.exception.total), int)
        self.assertEqual(held.exception.total, total)

    def test_example(self):
        self.assertEqual(
            [merged(D, 0, 1), merged(((1, 0), (2, 0), (4, 5)), 2, 0)],
            [((3, 4),), ((2, 0), (5, 5))])

    def test_two_drawers(self):
        for drawers, stock in [
            ((0, 1), ((11, 22), (3, 4), (30, 5))),
            ((1, 0), ((11, 22), (3, 4), (30, 5))),
            ((0, 2), ((4, 6), (10, 20), (30, 5))),
            ((2, 0), ((10, 20), (4, 6), (30, 5))),
            ((0, 3), ((31, 7), (10, 20), (3, 4))),
            ((3, 0), ((10, 20), (3, 4), (31, 7))),
            ((1, 3), ((1, 2), (40, 25), (3, 4))),
            ((3, 1), ((1, 2), (3, 4), (40, 25))),
            ((2, 3), ((1, 2), (10, 20), (33, 9))),
            ((3, 2), ((1, 2), (10, 20), (33, 9))),
        ]:
            with self.subTest(drawers=drawers):
                self.assertEqual(shape(merged(self.FOUR, *drawers)), shape(stock))

    def test_three_drawers(self):
        for drawers, stock in [
            ((0, 1, 2), ((14, 26), (30, 5))),
            ((1, 2, 0), ((14, 26), (30, 5))),
            ((3, 2, 0), ((10, 20), (34, 11))),
            ((0, 3, 2), ((34, 11), (10, 20))),
            ((2, 0, 3), ((10, 20), (34, 11))),
            ((3, 1, 0), ((3, 4), (41, 27))),
            ((1, 3, 0), ((41, 27), (3, 4))),
        ]:
            with self.subTest(drawers=drawers):
                self.assertEqual(shape(merged(self.FOUR, *drawers)), shape(stock))

    def test_four_drawers_in_any_order(self):
        for drawers in itertools.permutations(range(4)):
            with self.subTest(drawers=drawers):
                self.assertEqual(merged(self.FOUR, *drawers), ((44, 31),))

    def test_every_choice_of_drawers(self):
        for many in (2, 3, 4):
            for drawers in itertools.permutations(range(4), many):
                result = list(self.FOUR)
                result[drawers[0]] = tuple(
                    sum(self.FOUR[drawer][kind] for drawer in drawers) for kind in range(2))
                for drawer in sorted(drawers[1:], reverse=True):
                    del result[drawer]
                with self.subTest(drawers=drawers):
                    self.assertEqual(merged(self.FOUR, *drawers), tuple(result))
                    self.assertIs(is_stock(merged(self.FOUR, *drawers)), True)

    def test_equal_and_empty_drawers(self):
        self.assertEqual(merged(((1,), (1,), (1,)), 1, 2), ((1,), (2,)))
        self.assertEqual(merged(((1,), (1,), (1,)), 2, 1), ((1,), (2,)))
        self.assertEqual(merged(((0, 0), (0, 0)), 1, 0), ((0, 0),))

    def test_sums_of_exactly_the_greatest_count(self):
        self.assertEqual(merged(((20, 50), (30, 0)), 1, 0), ((50, 50),))
        self.assertEqual(merged(((10,), (10,), (10,), (20,)), 3, 0, 1, 2), ((50,),))

    def test_one_above_the_greatest_count(self):
        self.check_too_much(51, ((50,), (1,)), 0, 1)
        self.check_too_much(51, ((50,), (1,)), 1, 0)
        self.check_too_much(51, ((1, 25), (0, 26)), 0, 1)

    def test_the_first_total_in_the_order_of_the_kinds(self):
        self.check_too_much(60, ((30, 40, 50), (30, 5, 1)), 0, 1)
        self.check_too_much(51, ((25, 50, 50), (25, 1, 50)), 1, 0)
        self.check_too_much(100, ((50, 26), (50, 25)), 0, 1)
        self.check_too_much(52, ((1, 1, 1, 26), (1, 1, 1, 26)), 1, 0)

    def test_the_total_is_that_of_all_merged_drawers(self):
        self.check_too_much(90, ((30,), (30,), (30,)), 2, 0, 1)
        self.check_too_much(200, ((50,),) * 4, 1, 3, 0, 2)

    def test_other_drawers_do_not_count(self):
        self.assertEqual(merged(((20,), (50,), (30,)), 0, 2), ((50,), (50,)))
        self.check_too_much(70, ((20,), (50,), (30,)), 0, 1)

    def test_stays_the_same_after_an_error(self):
        stock = ((50, 1), (1, 2), (0, 3))
        self.check_too_much(51, stock, 0, 1)
        self.check_too_much(51, stock, 0, 1)
        self.assertEqual(merged(stock, 0, 2), ((50, 4), (1, 2)))
        self.assertEqual(stock, ((50, 1), (1, 2), (0, 3)))

    def test_the_stock_does_not_change_and_answers_stay_the_same(self):
        kept = copy.deepcopy(self.FOUR)
        first = merged(self.FOUR, 2, 0)
        merged(self.FOUR, 0, 2)
        self.assertEqual(merged(self.FOUR, 2, 0), first)
        self.assertEqual(shape(self.FOUR), shape(kept))


if __name__ == "__main__":
    unittest.main()
