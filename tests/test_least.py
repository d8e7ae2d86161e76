import itertools
import time
import unittest

from darkdrawers.bounds import LIMIT, MAX_COUNT, SMALL_PLANS
from darkdrawers.errors import TooLarge
from darkdrawers.least import cheapest_plan, least_plans
from darkdrawers.plans import is_sure
from tests import brute
from tests.samples import (
    EDGE_CASES, FULL, D, Dice, W, check_raises, shape, small_cases, unchanged)

# Stocks with exactly SMALL_PLANS plans: 2000, 40 * 50, 10 * 10 * 20 and 4 * 5 * 10 * 10 of them.
# (A drawer has at most 200 things, so a single one always has few plans.)
EXACTLY = [
    ((20, 19), (29, 20)),
    ((3, 2, 2, 2), (3, 3, 2, 1), (5, 5, 5, 4)),
    ((1, 1, 1, 0), (1, 1, 1, 1), (3, 2, 2, 2), (2, 2, 2, 3)),
    ((9, 0), (0, 4), (39, 0)),
    ((50, 49, 50, 50), (0, 0, 0, 9)),
]
# Stocks with more plans, the last one but one with exactly one more: 3 * 23 * 29.
TOO_LARGE = [
    ((50, 30), (5, 5), (0, 2)),
    ((20, 20), (29, 20)),
    ((20, 19), (30, 20)),
    ((3, 2, 2, 2), (3, 3, 2, 1), (5, 5, 5, 5)),
    ((50, 50, 50, 50), (0, 0, 0, 9)),
    ((1, 1, 1, 0), (1, 1, 1, 1), (3, 2, 2, 2), (2, 2, 2, 4)),
    ((28, 0), (0, 22), (1, 1)),
    FULL,
]


def number_of_plans(stock):
    number = 1
    for drawer in stock:
        number *= 1 + sum(drawer)
    return number


def large_collections(kinds):
    """Collections with as many different spoilings as there may be, and some easy ones."""
    dice = Dice(kinds)
    yield ((1,) * kinds,)
    yield ((MAX_COUNT,) * kinds,) * 4
    yield tuple((2 + index,) * kinds for index in range(4))
    for most in (3, 9, 20):
        yield tuple(tuple(1 + dice.throw(most) for _ in range(kinds)) for _ in range(4))


class LeastPlansTest(unittest.TestCase):
    def test_example(self):
        self.assertEqual([least_plans(D, W), least_plans(D, ((9, 9),))],
                         [((0, 4), (2, 2), (3, 0)), ()])

    def test_against_all_plans_of_small_stocks(self):
        for stock, collections in small_cases():
            with self.subTest(stock=stock, collections=collections):
                self.assertEqual(shape(least_plans(stock, collections)),
                                 shape(brute.least_plans(stock, collections)))

    def test_one_drawer(self):
        for things in (0, 1, 7, MAX_COUNT):
            for needed in (1, 2, 7, MAX_COUNT):
                expected = ((needed,),) if needed <= things else ()
                self.assertEqual(least_plans(((things,),), ((needed,),)), expected)

    def test_each_thing_counts_alike(self):
        self.assertEqual(least_plans(((1,), (1,), (1,), (1,)), ((3,),)),
                         ((0, 1, 1, 1), (1, 0, 1, 1), (1, 1, 0, 1), (1, 1, 1, 0)))
        self.assertEqual(least_plans(((2,), (0,), (3,)), ((3,),)),
                         ((0, 0, 3), (1, 0, 2), (2, 0, 1)))

    def test_wishes_that_not_even_all_things_fulfil(self):
        for stock in [D, ((0,),), ((0, 0), (0, 0)), ((1, 1, 1), (1, 1, 1))]:
            kinds = len(stock[0])
            self.assertEqual(least_plans(stock, ((9,) * kinds,)), ())
            self.assertEqual(least_plans(stock, ((9,) + (0,) * (kinds - 1),) * 2), ())

    def test_exactly_as_many_plans_as_may_be_and_more(self):
        for stock in EXACTLY:
            self.assertEqual(number_of_plans(stock), SMALL_PLANS)
            self.assertEqual(type(least_plans(stock, ((1,) * len(stock[0]),))), tuple)
        for stock in TOO_LARGE:
            self.assertGreater(number_of_plans(stock), SMALL_PLANS)
            for collections in [((1,) * len(stock[0]),), ((MAX_COUNT,) * len(stock[0]),) * 4]:
                with self.subTest(stock=stock):
                    check_raises(self, TooLarge(SMALL_PLANS), least_plans, stock, collections)

    def test_too_large_is_raised_even_if_no_plan_is_sure(self):
        stock = ((1, 0), (49, 0), (0, 20))
        self.assertGreater(number_of_plans(stock), SMALL_PLANS)
        check_raises(self, TooLarge(SMALL_PLANS), least_plans, stock, ((50, 50),))
        check_raises(self, TooLarge(SMALL_PLANS), cheapest_plan, stock, ((50, 50),), (1, 1, 1))

    def test_one_plan_more(self):
        stock = ((28, 0), (0, 22), (1, 1))
        self.assertEqual(number_of_plans(stock), SMALL_PLANS + 1)
        check_raises(self, TooLarge(SMALL_PLANS), least_plans, stock, W)
        check_raises(self, TooLarge(SMALL_PLANS), cheapest_plan, stock, W, (0, 0, 0))
        for smaller in [((27, 0), (0, 22), (1, 1)), ((28, 0), (0, 21), (1, 1))]:
            self.assertNotEqual(least_plans(smaller, W), ())

    def test_the_greatest_cases_give_an_answer_in_a_few_seconds(self):
        for stock in EXACTLY:
            for collections in large_collections(len(stock[0])):
                started = time.monotonic()
                plans = least_plans(stock, collections)
                cheapest_plan(stock, collections, (1,) * len(stock))
                self.assertLess(time.monotonic() - started, 20)
                self.check_large(stock, collections, plans)

    def check_large(self, stock, collections, plans):
        """Tests the plans by the certificates: they are sure, and all others are above or not."""
        self.assertEqual(list(plans), sorted(set(plans)))
        for one, other in itertools.permutations(plans[:60], 2):
            self.assertFalse(brute.is_above(one, other))
        for plan in plans[:20] + plans[-20:]:
            self.assertTrue(is_sure(stock, collections, plan))
            for drawer in range(len(plan)):
                if plan[drawer]:
                    less = plan[:drawer] + (plan[drawer] - 1,) + plan[drawer + 1:]
                    self.assertFalse(is_sure(stock, collections, less))
        dice = Dice(53)
        for _ in range(40):
            plan = dice.plan(stock)
            below = [least for least in plans if least == plan or brute.is_above(plan, least)]
            self.assertIs(is_sure(stock, collections, plan), bool(below))

    def test_stocks_of_middle_size(self):
        dice = Dice(59)
        for drawers, kinds, most in [(1, 4, 30), (2, 2, 12), (2, 4, 6), (3, 2, 4), (3, 3, 3),
                                     (4, 1, 5), (4, 2, 2)]:
            for many in range(1, 5):
                stock = dice.stock(drawers, kinds, most)
                if number_of_plans(stock) <= SMALL_PLANS:
                    collections = dice.collections(many, kinds, most)
                    self.check_large(stock, collections, least_plans(stock, collections))

    def test_somewhat_beyond_the_limits(self):
        stock, collections = ((1,), (0,), (1,), (2,), (1,)), ((2,), (3,))
        self.assertEqual(least_plans(stock, collections), brute.least_plans(stock, collections))
        self.assertEqual(least_plans(((52,),), ((51,),)), ((51,),))


class CheapestPlanTest(unittest.TestCase):
    def test_example(self):
        self.assertEqual(
            [cheapest_plan(D, W, (1, 1)), cheapest_plan(D, W, (5, 1)), cheapest_plan(D, W, (0, 0))],
            [(3, 0), (0, 4), (0, 4)])

    def test_against_all_plans_of_small_stocks(self):
        dice = Dice(61)
        for stock, collections in small_cases():
            sure = brute.sure_plans(stock, collections)
            for most in (0, 1, 3, LIMIT):
                prices = dice.counts(len(stock), most)
                with self.subTest(stock=stock, collections=collections, prices=prices):
                    self.assertEqual(shape(cheapest_plan(stock, collections, prices)),
                                     shape(self.expected(sure, prices)))

    def expected(self, sure, prices):
        costs = {plan: sum(number * price for number, price in zip(plan, prices))
                 for plan in sure if sure[plan]}
        return min(plan for plan in costs if costs[plan] == min(costs.values())) if costs else None

    def test_all_small_prices(self):
        for stock, collections in EDGE_CASES:
            if len(stock) < 4:
                for prices in itertools.product((0, 1, 2, 7), repeat=len(stock)):
                    self.assertEqual(shape(cheapest_plan(stock, collections, prices)),
                                     shape(brute.cheapest_plan(stock, collections, prices)))

    def test_the_smallest_of_those_that_cost_least(self):
        stock, collections = ((2,), (2,), (2,)), ((3,),)
        for prices, plan in [((0, 0, 0), (0, 1, 2)), ((1, 1, 1), (0, 1, 2)), ((0, 0, 1), (1, 2, 0)),
                             ((0, 1, 0), (1, 0, 2)), ((1, 0, 0), (0, 1, 2)), ((0, 1, 1), (2, 0, 1)),
                             ((1, 0, 1), (0, 2, 1)), ((2, 1, 1), (0, 1, 2)), ((1, 1, 2), (1, 2, 0)),
                             ((0, LIMIT, LIMIT), (2, 0, 1)), ((LIMIT, 0, LIMIT), (0, 2, 1))]:
            with self.subTest(prices=prices):
                self.assertEqual(cheapest_plan(stock, collections, prices), plan)

    def test_nothing_that_costs_nothing_is_taken_in_vain(self):
        self.assertEqual(cheapest_plan(((9,), (3,)), ((2,),), (0, 0)), (0, 2))
        self.assertEqual(cheapest_plan(((9,), (3,)), ((2,),), (0, 1)), (2, 0))
        self.assertEqual(cheapest_plan(((9, 9), (3, 0)), ((2, 0),), (0, 0)), (0, 2))

    def test_none_if_no_plan_is_sure(self):
        for prices in [(0, 0), (1, 2), (LIMIT, LIMIT)]:
            self.assertIsNone(cheapest_plan(D, ((9, 9),), prices))

    def test_prices_at_the_limit(self):
        for prices, plan in [((LIMIT, LIMIT), (3, 0)), ((LIMIT, LIMIT - 1), (3, 0)),
                             ((LIMIT, 3 * LIMIT // 4), (0, 4)), ((LIMIT, 3 * LIMIT // 4 + 1), (3, 0)),
                             ((0, LIMIT), (3, 0)), ((LIMIT, 0), (0, 4))]:
            with self.subTest(prices=prices):
                self.assertEqual(cheapest_plan(D, W, prices), plan)

    def test_exactly_as_many_plans_as_may_be_and_more(self):
        for stock in EXACTLY:
            plan = cheapest_plan(stock, ((1,) * len(stock[0]),), (1,) * len(stock))
            self.assertTrue(is_sure(stock, ((1,) * len(stock[0]),), plan))
        for stock in TOO_LARGE:
            for price in (0, 1, LIMIT):
                for collections in [((1,) * len(stock[0]),), ((MAX_COUNT,) * len(stock[0]),)]:
                    check_raises(self, TooLarge(SMALL_PLANS), cheapest_plan,
                                 stock, collections, (price,) * len(stock))


class PureTest(unittest.TestCase):
    def test_arguments_do_not_change_and_answers_stay_the_same(self):
        for stock, collections in EDGE_CASES:
            unchanged(self, least_plans, stock, collections)
            unchanged(self, cheapest_plan, stock, collections, (1,) * len(stock))

    def test_the_answers_again_after_other_calls(self):
        first = [(least_plans(stock, collections), cheapest_plan(stock, collections, (2,) * len(stock)))
                 for stock, collections in EDGE_CASES]
        check_raises(self, TooLarge(SMALL_PLANS), least_plans, FULL, FULL)
        again = [(least_plans(stock, collections), cheapest_plan(stock, collections, (2,) * len(stock)))
                 for stock, collections in reversed(EDGE_CASES)]
        self.assertEqual(first, again[::-1])


if __name__ == "__main__":
    unittest.main()
