import itertools
import time
import unittest

from darkdrawers.bounds import LIMIT, MAX_COUNT, SMALL_THINGS
from darkdrawers.errors import TooLarge
from darkdrawers.looking import looking_number, next_drawer
from darkdrawers.plans import is_sure, sure_number, sure_total
from tests import brute
from tests.samples import (
    EDGE_CASES, FULL, D, Dice, W, check_raises, shape, small_cases, unchanged)

# Stocks with exactly SMALL_THINGS things, and with one more or many more.
EXACTLY = [
    ((14,),),
    ((7, 0), (0, 7)),
    ((0, 0), (14, 0)),
    ((4, 3, 4, 3),),
    ((1, 1, 1, 1), (1, 1, 1, 1), (1, 1, 1, 0), (1, 1, 0, 1)),
    ((2, 1, 0, 1), (0, 2, 2, 0), (1, 0, 1, 1), (1, 1, 0, 1)),
    ((2, 2, 1), (1, 2, 2), (2, 1, 1)),
    ((5,), (4,), (3,), (2,)),
]
TOO_LARGE = [
    ((15,),),
    ((16,),),
    ((8, 0), (0, 7)),
    ((0, 0), (15, 0)),
    ((4, 4, 4, 3),),
    ((1, 1, 1, 1), (1, 1, 1, 1), (1, 1, 1, 1), (1, 1, 1, 0)),
    ((5,), (4,), (3,), (3,)),
    ((MAX_COUNT,),),
    FULL,
]


def wishes_for(kinds):
    """Collections for so many kinds: easy ones, those that all things do not fulfil, several."""
    yield ((1,) * kinds,)
    yield ((MAX_COUNT,) * kinds,)
    yield ((2,) + (0,) * (kinds - 1), (0,) * (kinds - 1) + (3,))
    yield tuple(tuple((index + kind) % 3 + 1 for kind in range(kinds)) for index in range(4))


# Cases in which looking helps: (stock, collections, the number, the first drawer).
LOOKING_HELPS = [
    (((2, 1), (0, 1), (0, 0), (2, 2)), ((2, 2), (1, 1), (2, 1)), 2, 0),
    (((2, 0), (1, 2)), ((1, 2), (1, 1)), 2, 1),
    (((2, 2), (2, 0), (0, 0), (1, 2)), ((2, 1),), 3, 0),
    (((2, 0), (3, 3)), ((2, 1),), 4, 1),
    (((0, 1), (1, 2), (2, 1), (1, 0)), ((2, 0), (0, 2), (2, 0)), 2, 1),
    (((1, 1), (3, 1)), ((2, 2), (2, 2), (2, 1)), 3, 1),
    (((2, 1, 1), (0, 1, 1)), ((1, 0, 2), (1, 1, 0)), 3, 0),
    (((0, 0), (2, 1), (1, 2), (0, 2)), ((1, 1),), 2, 1),
    (((2, 2), (1, 0), (0, 1)), ((2, 0), (0, 2)), 2, 0),
]


def cases_with_choices():
    """A mixed drawer at some place among pure ones: what comes first tells where to go on."""
    dice = Dice(131)
    for kinds, pure in [(2, 2), (2, 3), (3, 2), (3, 3)] * 10:
        stock = [dice.counts(kinds, 2)]
        for _ in range(pure):
            kind = dice.throw(kinds - 1)
            stock.append(tuple(dice.throw(2) if at == kind else 0 for at in range(kinds)))
        at = dice.throw(pure)
        stock = tuple(stock[at:] + stock[:at])
        totals = brute.added(stock, range(kinds))
        wished = [tuple(dice.throw(min(2, total)) for total in totals) for _ in range(1 + dice.throw(2))]
        collections = tuple(collection for collection in wished if any(collection))
        if collections:
            yield stock, collections


def few_things():
    """The small cases with at most six things, for which all ways to choose can be tried."""
    return [case for case in small_cases() if sum(map(sum, case[0])) <= 6]


class LookingNumberTest(unittest.TestCase):
    def test_example(self):
        self.assertEqual(
            [looking_number(D, W), looking_number(((1, 1), (0, 1)), W), looking_number(D, ((9, 9),))],
            [3, 2, None])

    def test_step_by_step_on_small_stocks(self):
        cases = few_things()
        self.assertGreater(len(cases), 60)
        for stock, collections in cases:
            with self.subTest(stock=stock, collections=collections):
                nothing = (0,) * len(stock[0])
                self.assertEqual(shape(looking_number(stock, collections)),
                                 shape(brute.looking_number(stock, collections, nothing)))

    def test_from_the_smallest_rest_on(self):
        for stock, collections in small_cases():
            if sum(map(sum, stock)) <= SMALL_THINGS:
                table = brute.looking_table(stock, collections)
                self.assertEqual(shape(looking_number(stock, collections)), shape(table[stock][0]))

    def test_stocks_with_choices(self):
        helped = 0
        for stock, collections in cases_with_choices():
            table = brute.looking_table(stock, collections)
            with self.subTest(stock=stock, collections=collections):
                number = looking_number(stock, collections)
                self.assertEqual(shape(number), shape(table[stock][0]))
            plans = brute.sure_plans(stock, collections)
            totals = [sum(plan) for plan in plans if plans[plan]]
            helped += bool(totals) and number < min(totals)
        self.assertGreater(helped, 0)

    def test_cases_in_which_looking_helps(self):
        for stock, collections, number, drawer in LOOKING_HELPS:
            with self.subTest(stock=stock, collections=collections):
                self.assertEqual(looking_number(stock, collections), number)
                self.assertEqual(next_drawer(stock, collections, (0,) * len(stock[0])), drawer)
                table = brute.looking_table(stock, collections)
                self.assertEqual(table[stock][0], number)
                self.assertEqual(min(table[stock][1]), drawer)
                plans = brute.sure_plans(stock, collections)
                self.assertLess(number, min(sum(plan) for plan in plans if plans[plan]))

    def test_one_drawer_needs_as_many_as_in_the_dark(self):
        dice = Dice(67)
        for kinds, most in [(1, 14), (2, 7), (3, 4), (4, 3)]:
            for many in range(1, 5):
                for _ in range(10):
                    stock = dice.stock(1, kinds, most)
                    collections = dice.collections(many, kinds, most)
                    self.assertEqual(shape(looking_number(stock, collections)),
                                     shape(sure_number(stock, collections, 0)))

    def test_empty_drawers_change_nothing(self):
        for stock, collections in EDGE_CASES:
            if len(stock) < 4:
                empty = (0,) * len(stock[0])
                number = looking_number(stock, collections)
                for at in range(len(stock) + 1):
                    more = stock[:at] + (empty,) + stock[at:]
                    self.assertEqual(shape(looking_number(more, collections)), shape(number))

    def test_nothing_there(self):
        for stock in [((0,),), ((0, 0), (0, 0)), ((0, 0, 0, 0),) * 4]:
            for collections in wishes_for(len(stock[0])):
                self.assertIsNone(looking_number(stock, collections))

    def test_looking_helps(self):
        for stock, collections, number in [
            (((1, 1), (1, 1)), ((2, 0), (0, 2)), 3),
            (((3, 0), (0, 3)), ((1, 1),), 2),
            (((3, 0), (0, 3)), ((3, 0), (0, 3)), 3),
            (((1, 1), (4, 0), (0, 4)), ((1, 1),), 2),
            (((2, 2), (1, 0), (0, 1)), ((2, 0), (0, 2)), 2),
            (((1, 1, 1, 1),), ((1, 1, 1, 1),), 4),
            (((1, 1, 1, 1), (1, 1, 1, 1)), ((2, 0, 0, 0),), 8),
        ]:
            with self.subTest(stock=stock, collections=collections):
                self.assertEqual(looking_number(stock, collections), number)
                self.assertEqual(brute.looking_table(stock, collections)[stock][0], number)

    def test_exactly_as_many_things_as_may_be(self):
        for stock in EXACTLY:
            self.assertEqual(sum(map(sum, stock)), SMALL_THINGS)
            for collections in wishes_for(len(stock[0])):
                started = time.monotonic()
                number = looking_number(stock, collections)
                self.assertLess(time.monotonic() - started, 20)
                total = sure_total(stock, collections)
                self.assertIs(number is None, total is None)
                if number is not None:
                    self.assertLessEqual(number, total)
                if len(stock) == 1:
                    self.assertEqual(number, total)

    def test_all_rests_of_stocks_with_as_many_things_as_may_be(self):
        for stock in EXACTLY[5:7]:
            for collections in wishes_for(len(stock[0])):
                table = brute.looking_table(stock, collections)
                self.assertEqual(looking_number(stock, collections), table[stock][0])
                totals = brute.added(stock, range(len(stock[0])))
                for rest in list(table)[::97]:
                    left = brute.added(rest, range(len(stock[0])))
                    counts = tuple(total - few for total, few in zip(totals, left))
                    drawers = table[rest][1]
                    self.assertEqual(shape(next_drawer(rest, collections, counts)),
                                     shape(min(drawers) if drawers else None))

    def test_more_things_than_may_be(self):
        for stock in TOO_LARGE:
            for collections in wishes_for(len(stock[0])):
                check_raises(self, TooLarge(SMALL_THINGS), looking_number, stock, collections)

    def test_too_large_is_raised_even_if_all_things_are_not_enough(self):
        for collections in [((16,),), ((50,),)]:
            check_raises(self, TooLarge(SMALL_THINGS), looking_number, ((15,),), collections)
            self.assertIsNone(looking_number(((14,),), collections))

    def test_never_more_than_a_sure_plan(self):
        for stock, collections in small_cases():
            if sum(map(sum, stock)) <= SMALL_THINGS:
                number = looking_number(stock, collections)
                for plan, answer in brute.sure_plans(stock, collections).items():
                    if answer:
                        self.assertLessEqual(number, sum(plan))

    def test_somewhat_beyond_the_limits(self):
        stock, collections = ((1, 0), (0, 1), (1, 1), (0, 0), (1, 1)), ((2, 0), (0, 2))
        self.assertEqual(looking_number(stock, collections),
                         brute.looking_number(stock, collections, (0, 0)))


class NextDrawerTest(unittest.TestCase):
    def test_example(self):
        self.assertEqual(
            [next_drawer(D, W, (0, 0)), next_drawer(((1, 1), (1, 3)), W, (1, 0)),
             next_drawer(D, W, (1, 1))],
            [0, 0, None])

    def test_step_by_step_on_small_stocks(self):
        for stock, collections in few_things():
            rows = list(itertools.product(range(3), repeat=len(stock[0])))
            for counts in rows[::1 + len(rows) // 9]:
                with self.subTest(stock=stock, collections=collections, counts=counts):
                    self.assertEqual(shape(next_drawer(stock, collections, counts)),
                                     shape(brute.next_drawer(stock, collections, counts)))

    def test_all_rests_of_small_stocks(self):
        found = set()
        helping = [(stock, collections) for stock, collections, _, _ in LOOKING_HELPS]
        for stock, collections in small_cases() + helping + list(cases_with_choices()):
            if sum(map(sum, stock)) <= SMALL_THINGS:
                totals = brute.added(stock, range(len(stock[0])))
                table = brute.looking_table(stock, collections)
                for rest in list(table)[::1 + len(table) // 60]:
                    left = brute.added(rest, range(len(stock[0])))
                    counts = tuple(total - few for total, few in zip(totals, left))
                    expected = min(table[rest][1], default=None)
                    found.add(expected)
                    self.assertEqual(shape(next_drawer(rest, collections, counts)), shape(expected))
        self.assertEqual(found, {None, 0, 1, 2, 3})

    def test_the_smallest_of_several_that_are_equally_good(self):
        for many in range(1, 5):
            stock = ((1, 1),) * many
            self.assertEqual(next_drawer(stock, W, (0, 0)), 0)
            self.assertEqual(next_drawer(stock, ((1, 0),), (0, 0)), 0)
            for empty in range(many - 1):
                left = ((0, 0),) * (empty + 1) + ((1, 1),) * (many - empty - 1)
                self.assertEqual(next_drawer(left, W, (0, 0)), empty + 1)
        self.assertEqual(next_drawer(((2, 2), (3, 0), (3, 0)), ((3, 0),), (0, 0)), 1)
        self.assertEqual(next_drawer(((0, 3), (2, 2), (3, 0), (3, 0)), ((2, 0),), (0, 0)), 2)

    def test_none_if_the_counts_fulfil_the_wish(self):
        for counts in [(1, 1), (2, 1), (1, 5), (LIMIT, LIMIT)]:
            self.assertIsNone(next_drawer(D, W, counts))
            self.assertIsNone(next_drawer(((0, 0),), W, counts))

    def test_none_if_counts_and_all_things_do_not(self):
        for counts in [(0, 0), (5, 4), (6, 4), (5, 5), (LIMIT, 4), (5, LIMIT)]:
            self.assertIsNone(next_drawer(D, ((9, 9),), counts))
        self.assertEqual(next_drawer(D, ((9, 9),), (6, 5)), 0)
        self.assertIsNone(next_drawer(((0, 0), (0, 0)), W, (0, 0)))
        self.assertIsNone(next_drawer(((0, 0), (0, 0)), W, (LIMIT, 0)))

    def test_counts_count(self):
        self.assertEqual(next_drawer(((3, 0), (0, 3)), W, (1, 0)), 1)
        self.assertEqual(next_drawer(((3, 0), (0, 3)), W, (0, 1)), 0)
        self.assertEqual(next_drawer(((3, 0), (0, 3)), ((50, 50),), (50, 49)), 1)
        self.assertEqual(next_drawer(((3, 0), (0, 3)), ((50, 50),), (49, LIMIT)), 0)
        self.assertEqual(next_drawer(((0, 0), (3, 0), (0, 3)), ((2, 2), (0, 3)), (1, 2)), 1)
        self.assertEqual(next_drawer(((0, 0), (3, 0), (0, 3)), ((2, 2), (0, 3)), (0, 2)), 2)

    def test_following_it_takes_no_more_than_the_looking_number(self):
        dice = Dice(71)
        for stock, collections in small_cases():
            number = looking_number(stock, collections) if sum(map(sum, stock)) <= 14 else None
            if number is not None:
                for _ in range(3):
                    self.assertLessEqual(self.things_taken(stock, collections, dice), number)

    def things_taken(self, stock, collections, dice):
        counts = (0,) * len(stock[0])
        while brute.first_fulfilled(collections, counts) is None:
            drawer = next_drawer(stock, collections, counts)
            steps = list(brute.steps_from(stock, drawer))
            stock, kind = steps[dice.throw(len(steps) - 1)]
            counts = brute.one_more(counts, kind)
        self.assertIsNone(next_drawer(stock, collections, counts))
        return sum(counts)

    def test_exactly_as_many_things_as_may_be_and_more(self):
        for stock in EXACTLY:
            kinds = len(stock[0])
            for collections in wishes_for(kinds):
                for counts in [(0,) * kinds, (1,) * kinds, (LIMIT,) * kinds]:
                    started = time.monotonic()
                    next_drawer(stock, collections, counts)
                    self.assertLess(time.monotonic() - started, 20)
        for stock in TOO_LARGE:
            kinds = len(stock[0])
            for collections in wishes_for(kinds):
                for counts in [(0,) * kinds, (1,) * kinds, (LIMIT,) * kinds]:
                    check_raises(self, TooLarge(SMALL_THINGS), next_drawer,
                                 stock, collections, counts)

    def test_too_large_comes_before_none(self):
        for counts in [(3,), (LIMIT,)]:
            check_raises(self, TooLarge(SMALL_THINGS), next_drawer, ((15,),), ((3,),), counts)
            self.assertIsNone(next_drawer(((14,),), ((3,),), counts))
        check_raises(self, TooLarge(SMALL_THINGS), next_drawer, ((15,),), ((50,),), (0,))
        self.assertIsNone(next_drawer(((14,),), ((50,),), (0,)))

    def test_the_counts_are_not_limited_by_the_number_of_things(self):
        self.assertEqual(next_drawer(((14,),), ((50,),), (36,)), 0)
        self.assertIsNone(next_drawer(((14,),), ((50,),), (35,)))
        self.assertIsNone(next_drawer(((14,),), ((50,),), (50,)))


class PureTest(unittest.TestCase):
    def test_arguments_do_not_change_and_answers_stay_the_same(self):
        for stock, collections in EDGE_CASES:
            unchanged(self, looking_number, stock, collections)
            unchanged(self, next_drawer, stock, collections, (0,) * len(stock[0]))

    def test_the_answers_again_after_other_calls(self):
        def answers(cases):
            return [(looking_number(stock, collections), is_sure(stock, collections, (0,) * len(stock)),
                     next_drawer(stock, collections, (0,) * len(stock[0])))
                    for stock, collections in cases]

        first = answers(EDGE_CASES)
        check_raises(self, TooLarge(SMALL_THINGS), looking_number, FULL, FULL)
        self.assertEqual(answers(EDGE_CASES[::-1])[::-1], first)

    def test_the_same_stock_with_other_collections_and_counts(self):
        stock = ((3, 0), (0, 3))
        for _ in range(2):
            self.assertEqual([looking_number(stock, W), looking_number(stock, ((3, 3),)),
                              looking_number(stock, ((0, 1),)), looking_number(stock, W)],
                             [2, 6, 1, 2])
            self.assertEqual([next_drawer(stock, W, (1, 0)), next_drawer(stock, W, (0, 1)),
                              next_drawer(stock, W, (0, 0))], [1, 0, 0])


if __name__ == "__main__":
    unittest.main()
