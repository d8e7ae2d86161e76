import inspect
import itertools
import unittest

from darkdrawers.bounds import SMALL_THINGS
from darkdrawers.counting import count_draws, count_lucky, each_draw
from darkdrawers.errors import DrawerError, TooLarge
from darkdrawers.plans import is_draw, is_sure
from tests import brute
from tests.samples import (
    EDGE_CASES, FULL, D, Dice, W, large_cases, shape, small_cases, unchanged)


class CountDrawsTest(unittest.TestCase):
    def test_example(self):
        self.assertEqual(
            [count_draws(D, (2, 1)), count_lucky(D, W, (2, 1)), count_lucky(D, W, (2, 2))],
            [12, 11, 18])

    def test_thing_by_thing(self):
        for stock, _ in small_cases():
            for plan in brute.plans_of(stock):
                self.assertEqual(shape(count_draws(stock, plan)),
                                 shape(brute.count_draws(stock, plan)))

    def test_all_plans_together_have_every_set_of_things(self):
        for stock, _ in small_cases():
            choices = sum(count_draws(stock, plan) for plan in brute.plans_of(stock))
            self.assertEqual(choices, 2 ** sum(map(sum, stock)))

    def test_nothing_all_and_empty_drawers(self):
        for stock in [D, ((0,),), ((0, 0), (0, 3)), FULL]:
            self.assertEqual(count_draws(stock, (0,) * len(stock)), 1)
            self.assertEqual(count_draws(stock, tuple(sum(drawer) for drawer in stock)), 1)
        self.assertEqual(count_draws(((0, 0), (0, 3), (2, 2)), (0, 1, 2)), 18)

    def test_plans_beyond_the_limits_have_no_choice(self):
        for plan in [(4, 0), (0, 5), (4, 5), (-1, 0), (0, -1)]:
            self.assertEqual(count_draws(D, plan), 0)
            self.assertEqual(count_lucky(D, W, plan), 0)
            self.assertEqual(list(each_draw(D, plan)), [])

    def test_large_stocks(self):
        dice = Dice(23)
        for stock, _ in large_cases():
            for _ in range(5):
                plan = dice.plan(stock)
                self.assertEqual(count_draws(stock, plan), brute.many_choices(stock, plan))
        self.assertEqual(count_draws(((50,),), (25,)), 126410606437752)


class CountLuckyTest(unittest.TestCase):
    def check_too_large(self, stock, collections, plan):
        with self.assertRaises(DrawerError) as held:
            count_lucky(stock, collections, plan)
        self.assertIs(type(held.exception), TooLarge)
        self.assertEqual(shape(held.exception.bound), shape(SMALL_THINGS))

    def test_thing_by_thing(self):
        for stock, collections in small_cases():
            if sum(map(sum, stock)) <= SMALL_THINGS:
                for plan in brute.plans_of(stock):
                    self.assertEqual(shape(count_lucky(stock, collections, plan)),
                                     shape(brute.count_lucky(stock, collections, plan)))

    def test_thing_by_thing_with_as_many_things_as_may_be(self):
        for stock, collections in [
            (((4, 3, 4, 3),), ((2, 1, 2, 1), (3, 0, 0, 3))),
            (((1, 1, 1, 1), (1, 1, 1, 1), (1, 1, 1, 0), (1, 1, 0, 1)), ((2, 2, 0, 0), (1, 1, 1, 1))),
            (((14,),), ((7,),)),
            (((7, 0), (0, 7)), ((3, 3), (5, 1))),
            (((0, 0), (2, 3), (5, 4)), ((3, 3),)),
        ]:
            self.assertEqual(sum(map(sum, stock)), SMALL_THINGS)
            half = tuple(sum(drawer) // 2 for drawer in stock)
            for plan in [half, (0,) * len(stock), tuple(sum(drawer) for drawer in stock)]:
                self.assertEqual(count_lucky(stock, collections, plan),
                                 brute.count_lucky(stock, collections, plan))

    def test_all_choices_are_lucky_exactly_if_the_plan_is_sure(self):
        for stock, collections in small_cases():
            for plan in brute.plans_of(stock):
                all_lucky = count_lucky(stock, collections, plan) == count_draws(stock, plan)
                self.assertIs(is_sure(stock, collections, plan), all_lucky)

    def test_too_large_exactly_above_the_bound(self):
        for stock, large in [
            (((14,),), False), (((15,),), True), (((16,),), True),
            (((7, 0), (0, 7)), False), (((7, 1), (0, 7)), True), (((8, 0), (0, 7)), True),
            (((4, 4, 4, 2),), False), (((4, 4, 4, 3),), True),
            (((1, 1, 1, 1),) * 3 + ((1, 1, 0, 0),), False),
            (((1, 1, 1, 1),) * 3 + ((1, 1, 1, 0),), True),
            (((0, 0), (0, 15)), True), (FULL, True),
        ]:
            collections = ((1,) * len(stock[0]),)
            sizes = tuple(sum(drawer) for drawer in stock)
            for plan in [sizes, (0,) * len(stock), (0,) * (len(stock) - 1) + (1,)]:
                with self.subTest(stock=stock, plan=plan):
                    if large:
                        self.check_too_large(stock, collections, plan)
                    else:
                        count_lucky(stock, collections, plan)

    def test_too_large_is_raised_again_and_changes_nothing(self):
        for _ in range(2):
            self.check_too_large(((15,),), ((1,),), (0,))
            self.assertEqual(count_lucky(((14,),), ((1,),), (1,)), 14)

    def test_the_other_functions_have_no_bound(self):
        self.assertEqual(count_draws(((15,),), (1,)), 15)
        self.assertEqual(list(each_draw(((15,),), (3,))), [((3,),)])


class EachDrawTest(unittest.TestCase):
    # So many draws that no program could compute them all.
    PLAN = (100, 100, 100, 100)

    def test_example(self):
        self.assertEqual(
            list(each_draw(D, (1, 1))),
            [((0, 1), (0, 1)), ((0, 1), (1, 0)), ((1, 0), (0, 1)), ((1, 0), (1, 0))])

    def test_against_a_plain_listing(self):
        for stock, _ in small_cases():
            for plan in brute.plans_of(stock):
                draws = list(each_draw(stock, plan))
                self.assertEqual(shape(draws), shape(brute.draws_of(stock, plan)))
                self.assertEqual(draws, sorted(set(draws)))

    def test_it_is_a_generator(self):
        self.assertTrue(inspect.isgeneratorfunction(each_draw))
        self.assertTrue(inspect.isgenerator(each_draw(D, (1, 1))))

    def test_nothing_all_and_empty_drawers(self):
        for stock in [D, ((0,),), ((0, 0), (0, 3)), FULL]:
            none = tuple((0,) * len(drawer) for drawer in stock)
            self.assertEqual(list(each_draw(stock, (0,) * len(stock))), [none])
            sizes = tuple(sum(drawer) for drawer in stock)
            self.assertEqual(list(each_draw(stock, sizes)), [stock])

    def test_the_first_draws_of_large_drawers(self):
        low = (0, 0, 50, 50)
        rest = [(0, 1, 49, 50), (0, 1, 50, 49), (0, 2, 48, 50), (0, 2, 49, 49), (0, 2, 50, 48)]
        draws = list(itertools.islice(each_draw(FULL, self.PLAN), 6))
        self.assertEqual(draws, [(low, low, low, last) for last in [low] + rest])

    def test_many_draws_of_large_drawers_ascend(self):
        for stock, plan in [(FULL, self.PLAN), (FULL, (3, 0, 150, 199)), (FULL, (1, 199, 60, 1))]:
            draws = list(itertools.islice(each_draw(stock, plan), 3000))
            self.assertEqual(draws, sorted(set(draws)))
            self.assertTrue(all(is_draw(stock, plan, draw) for draw in draws))

    def test_the_rest_need_not_be_taken(self):
        for _ in range(200):
            first = next(each_draw(FULL, self.PLAN))
            self.assertEqual(first, ((0, 0, 50, 50),) * 4)
        draws = each_draw(FULL, self.PLAN)
        next(draws)
        draws.close()
        self.assertEqual(list(draws), [])
        for draw in each_draw(FULL, self.PLAN):
            self.assertEqual(draw, first)
            break

    def test_two_generators_do_not_disturb_one_another(self):
        stock = ((2, 2), (1, 3), (2, 0))
        plans = [(2, 2, 1), (3, 1, 0), (2, 2, 1)]
        generators = [each_draw(stock, plan) for plan in plans]
        found = [[] for _ in plans]
        for turn in itertools.zip_longest(*generators):
            for row, draw in zip(found, turn):
                if draw is not None:
                    row.append(draw)
        self.assertEqual(found, [brute.draws_of(stock, plan) for plan in plans])

    def test_one_generator_within_another(self):
        pairs = [(one, two) for one in each_draw(D, (1, 2)) for two in each_draw(D, (1, 2))]
        draws = brute.draws_of(D, (1, 2))
        self.assertEqual(pairs, list(itertools.product(draws, draws)))


class PureTest(unittest.TestCase):
    def test_arguments_do_not_change_and_answers_stay_the_same(self):
        for stock, collections in EDGE_CASES:
            for plan in brute.plans_of(stock)[:5]:
                unchanged(self, count_draws, stock, plan)
                unchanged(self, count_lucky, stock, collections, plan)
                unchanged(self, lambda stock, plan: list(each_draw(stock, plan)), stock, plan)


if __name__ == "__main__":
    unittest.main()
