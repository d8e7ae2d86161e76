import itertools
import unittest

from darkdrawers.bounds import MAX_COUNT
from darkdrawers.plans import (
    certificate_holds, find_certificate, is_plan, is_sure, sure_number, sure_total)
from tests import brute
from tests.samples import (
    EDGE_CASES, FULL, D, Dice, W, large_cases, shape, small_cases, unchanged)


def greatest_rooms(stock, collections, drawers):
    """The greatest room of these drawers for the caps of any spoiling, from the table of rooms."""
    return max(row[drawers] for row in brute.rooms_of(stock, collections))


def expected_number(stock, collections, drawer):
    if brute.is_unlucky(collections, (stock[drawer],)):
        return None
    return 1 + greatest_rooms(stock, collections, (drawer,))


def worst_plan(stock, collections):
    """A plan that takes as many things as an unlucky draw can have."""
    def room(spoiling):
        return brute.room_in(stock, brute.caps_of(collections, spoiling), range(len(stock)))

    caps = brute.caps_of(collections, max(brute.spoilings_of(collections), key=room))
    plan = [0] * len(stock)
    for kind, cap in enumerate(caps):
        left = sum(drawer[kind] for drawer in stock) if cap is None else cap
        for index, drawer in enumerate(stock):
            number = min(left, drawer[kind])
            plan[index] += number
            left -= number
    return tuple(plan)


class SureTotalTest(unittest.TestCase):
    def test_example(self):
        self.assertEqual(
            [sure_total(D, W), sure_total(D, ((1, 1), (3, 0))), sure_total(D, ((9, 9),))],
            [5, 5, None])

    def test_one_drawer_one_kind(self):
        for things in (0, 1, 2, 49, MAX_COUNT):
            for needed in (1, 2, 49, MAX_COUNT):
                expected = needed if needed <= things else None
                self.assertEqual(shape(sure_total(((things,),), ((needed,),))), shape(expected))

    def test_against_all_plans_of_small_stocks(self):
        for stock, collections in small_cases():
            with self.subTest(stock=stock, collections=collections):
                self.assertEqual(shape(sure_total(stock, collections)),
                                 shape(brute.sure_total(stock, collections)))

    def test_every_plan_with_so_many_things_is_sure_and_some_with_one_less_is_not(self):
        for stock, collections in small_cases():
            total = sure_total(stock, collections)
            sure = {plan: is_sure(stock, collections, plan) for plan in brute.plans_of(stock)}
            if total is None:
                self.assertNotIn(True, sure.values())
                continue
            self.assertTrue(all(sure[plan] for plan in sure if sum(plan) >= total))
            self.assertFalse(all(sure[plan] for plan in sure if sum(plan) == total - 1))

    def test_at_the_limits(self):
        for collections, total in [
            (((MAX_COUNT,) * 4,) * 4, 650),
            (((1, 1, 1, 1),), 601),
            (((1, 0, 0, 0), (0, 1, 0, 0), (0, 0, 1, 0), (0, 0, 0, 1)), 1),
            (((50, 0, 0, 0), (0, 50, 0, 0), (0, 0, 50, 0), (0, 0, 0, 50)), 197),
            (((1, 1, 0, 0), (0, 0, 1, 1)), 401),
        ]:
            self.assertEqual(sure_total(FULL, collections), total)

    def test_against_the_table_of_rooms(self):
        answers = []
        for stock, collections in large_cases():
            with self.subTest(stock=stock, collections=collections):
                answers.append(sure_total(stock, collections))
                self.assertEqual(answers[-1], brute.sure_by_rooms(stock, collections))
        self.assertGreater(len(set(answers)), 5)

    def test_none_if_all_things_are_not_enough(self):
        for collections in [((51 - 1, 1),), ((1, 50), (50, 1)), ((0, 50),)]:
            self.assertIsNone(sure_total(((10, 20), (30, 29)), collections))
        self.assertIsNone(sure_total(((0, 0), (0, 0)), ((1, 0), (0, 1))))
        self.assertEqual(sure_total(((10, 20), (30, 29)), ((40, 49),)), 89)

    def test_large_plans_around_the_total(self):
        dice = Dice(19)
        for stock, collections in large_cases():
            total = sure_total(stock, collections)
            if total is None:
                continue
            plan = worst_plan(stock, collections)
            self.assertEqual(sum(plan), total - 1)
            self.assertIs(is_sure(stock, collections, plan), False)
            for drawer in range(len(stock)):
                more = tuple(number + (index == drawer) for index, number in enumerate(plan))
                if is_plan(stock, more):
                    self.assertIs(is_sure(stock, collections, more), True)
            for _ in range(10):
                plan = dice.plan(stock)
                if sum(plan) >= total:
                    self.assertIs(is_sure(stock, collections, plan), True)


class SureNumberTest(unittest.TestCase):
    def test_example(self):
        self.assertEqual(
            [sure_number(D, W, 0), sure_number(D, W, 1), sure_number(D, ((3, 0),), 1)],
            [3, 4, None])

    def test_against_trying_each_number(self):
        for stock, collections in small_cases():
            for drawer in range(len(stock)):
                with self.subTest(stock=stock, collections=collections, drawer=drawer):
                    self.assertEqual(shape(sure_number(stock, collections, drawer)),
                                     shape(brute.sure_number(stock, collections, drawer)))

    def test_against_the_table_of_rooms(self):
        found = []
        for stock, collections in large_cases():
            for drawer in range(4):
                found.append(sure_number(stock, collections, drawer))
                self.assertEqual(found[-1], expected_number(stock, collections, drawer))
        self.assertIn(None, found)
        self.assertGreater(len(set(found)), 5)

    def test_the_number_is_sure_and_one_less_is_not(self):
        for stock, collections in large_cases():
            for drawer in range(4):
                number = sure_number(stock, collections, drawer)
                size = sum(stock[drawer])
                for taken in ((size,) if number is None else (number - 1, number)):
                    plan = tuple(taken if index == drawer else 0 for index in range(4))
                    self.assertIs(is_sure(stock, collections, plan), taken == number)

    def test_an_empty_drawer(self):
        self.assertIsNone(sure_number(((0, 0), (1, 1)), W, 0))
        self.assertEqual(sure_number(((0, 0), (1, 1)), W, 1), 2)

    def test_only_this_drawer_counts(self):
        for other in itertools.product((0, 1, MAX_COUNT), repeat=2):
            self.assertEqual(sure_number(((2, 1), other), W, 0), 3)
            self.assertEqual(sure_number((other, (2, 1), other), W, 1), 3)


class BeyondTest(unittest.TestCase):
    """Somewhat more than the limits raises no error and is answered in the same way."""

    CASES = [
        (((1,), (0,), (1,), (2,), (1,)), ((2,), (3,))),
        (((1, 0, 1, 2, 1), (0, 1, 1, 0, 1)), ((1, 0, 0, 1, 0), (0, 1, 0, 0, 1))),
        (((2, 2), (1, 2)), ((3, 0), (0, 3), (2, 1), (1, 2), (3, 3))),
        (((51,),), ((51,),)),
        (((51, 1),), ((51, 1), (52, 0))),
    ]

    def test_all_plans(self):
        for stock, collections in self.CASES:
            rooms = brute.rooms_of(stock, collections)
            self.assertEqual(sure_total(stock, collections), brute.sure_total(stock, collections))
            for plan, answer in brute.sure_plans(stock, collections).items():
                self.assertIs(is_sure(stock, collections, plan), answer)
                value = find_certificate(stock, collections, plan)
                self.assertTrue(brute.holds(stock, collections, plan, value, rooms))
                self.assertIs(certificate_holds(stock, collections, plan, value), True)

    def test_more_things_than_there_are_have_no_unlucky_draw(self):
        for plan in [(4, 0), (0, 5), (4, 5)]:
            value = find_certificate(D, W, plan)
            self.assertEqual(value[0], "table")
            self.assertIs(certificate_holds(D, W, plan, value), True)
            self.assertIs(is_sure(D, W, plan), True)


class PureTest(unittest.TestCase):
    def test_arguments_do_not_change_and_answers_stay_the_same(self):
        for stock, collections in EDGE_CASES + large_cases()[:4]:
            unchanged(self, sure_total, stock, collections)
            for drawer in range(len(stock)):
                unchanged(self, sure_number, stock, collections, drawer)


if __name__ == "__main__":
    unittest.main()
