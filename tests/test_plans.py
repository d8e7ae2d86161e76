import itertools
import unittest

from darkdrawers.bounds import MAX_COUNT
from darkdrawers.counting import each_draw
from darkdrawers.plans import is_draw, is_plan, room_in
from tests import brute
from tests.samples import (
    FULL, STRANGE_VALUES, D, Dice, in_bools, in_lists, nested, shape, small_cases, unchanged,
    with_one_part_replaced)


def expected_plan(stock, value):
    return brute.are_ints(value, len(stock)) and all(
        0 <= number <= sum(drawer) for number, drawer in zip(value, stock))


class IsPlanTest(unittest.TestCase):
    def test_example(self):
        self.assertEqual([is_plan(D, (2, 4)), is_plan(D, (4, 0))], [True, False])

    def test_nothing_all_and_one_more(self):
        for stock in [D, ((0,),), ((7,),), ((0, 0), (0, 3)), FULL, ((MAX_COUNT,) * 4,)]:
            sizes = tuple(sum(drawer) for drawer in stock)
            with self.subTest(stock=stock):
                self.assertIs(is_plan(stock, (0,) * len(stock)), True)
                self.assertIs(is_plan(stock, sizes), True)
                for drawer, size in enumerate(sizes):
                    for number, answer in [(size + 1, False), (-1, False), (0, True), (size, True)]:
                        plan = sizes[:drawer] + (number,) + sizes[drawer + 1:]
                        self.assertIs(is_plan(stock, plan), answer, plan)

    def test_a_number_for_each_drawer(self):
        for length in range(7):
            self.assertIs(is_plan(D, (0,) * length), length == 2)
            self.assertIs(is_plan(FULL, (200,) * length), length == 4)
            self.assertIs(is_plan(((1,),), (1,) * length), length == 1)

    def test_numbers_around_the_limits(self):
        for number in (-(10 ** 39), -1, 0, 1, MAX_COUNT, MAX_COUNT + 1, 200, 201, 10 ** 39):
            with self.subTest(number=number):
                self.assertIs(is_plan(((MAX_COUNT,),), (number,)), 0 <= number <= MAX_COUNT)
                self.assertIs(is_plan(FULL, (0, number, 0, 0)), 0 <= number <= 200)

    def test_all_small_plans(self):
        for stock, _ in small_cases():
            for value in itertools.product(range(-1, 4), repeat=len(stock)):
                self.assertIs(is_plan(stock, value), expected_plan(stock, value), (stock, value))

    def test_strange_values_outside_and_inside(self):
        for value in STRANGE_VALUES:
            with self.subTest(value=value):
                self.assertIs(is_plan(D, value), False)
                self.assertIs(is_plan(((1,),), value), False)
                self.assertIs(is_plan(((1,),), (value,)), type(value) is int and value in (0, 1))
                self.assertIs(is_plan(D, (value, 1)), type(value) is int and 0 <= value <= 3)
                self.assertIs(is_plan(D, (1, value)), type(value) is int and 0 <= value <= 4)

    def test_values_with_one_part_replaced(self):
        for value in with_one_part_replaced((1, 0)):
            self.assertIs(is_plan(D, value), expected_plan(D, value), value)

    def test_lists_and_nested_values(self):
        self.assertIs(is_plan(D, [2, 1]), False)
        self.assertIs(is_plan(D, {0: 2, 1: 1}), False)
        for levels in range(21):
            self.assertIs(is_plan(((1,),), nested(1, levels)), levels == 1)

    def test_numbers_then_bools_then_numbers_again(self):
        for value, answer in [((0, 1), True), ((False, True), False), ((0, 1), True),
                              ((0, True), False), ((False, 1), False), ((0, 1), True)]:
            self.assertIs(is_plan(D, value), answer)

    def test_arguments_do_not_change_and_answers_stay_the_same(self):
        for value in [(2, 4), (4, 0), [2, 1], {"a": [1]}, ([1], 2)]:
            unchanged(self, is_plan, D, value)


class IsDrawTest(unittest.TestCase):
    def test_example(self):
        self.assertEqual(
            [is_draw(D, (2, 1), ((2, 0), (1, 0))), is_draw(D, (2, 1), ((0, 2), (1, 0)))],
            [True, False])

    def test_all_counts_for_small_stocks(self):
        for stock, _ in small_cases()[::3]:
            rows = [brute.numbers_up_to([things + 1 for things in drawer]) for drawer in stock]
            plans = brute.plans_of(stock)
            draws = {plan: brute.draws_of(stock, plan) for plan in plans[::3]}
            for value in itertools.islice(itertools.product(*rows), 300):
                for plan in draws:
                    self.assertIs(is_draw(stock, plan, value), value in draws[plan])

    def test_a_draw_of_another_plan(self):
        plans = brute.plans_of(D)
        for plan, other in itertools.product(plans, plans):
            for draw in brute.draws_of(D, plan):
                self.assertIs(is_draw(D, other, draw), plan == other)

    def test_nothing_and_all(self):
        for stock in [D, ((0,),), ((0, 0), (0, 3)), FULL]:
            none = tuple((0,) * len(drawer) for drawer in stock)
            nothing = (0,) * len(stock)
            sizes = tuple(sum(drawer) for drawer in stock)
            with self.subTest(stock=stock):
                self.assertIs(is_draw(stock, nothing, none), True)
                self.assertIs(is_draw(stock, sizes, stock), True)
                self.assertIs(is_draw(stock, sizes, none), sizes == nothing)
                self.assertIs(is_draw(stock, nothing, stock), sizes == nothing)

    def test_one_thing_more_than_there_is(self):
        for drawer, kind in itertools.product(range(4), range(4)):
            counts = [list(things) for things in FULL]
            counts[drawer][kind] += 1
            counts[drawer][(kind + 1) % 4] -= 1
            self.assertIs(is_draw(FULL, (200,) * 4, tuple(map(tuple, counts))), False)

    def test_numbers_below_zero(self):
        self.assertIs(is_draw(D, (1, 0), ((2, -1), (0, 0))), False)
        self.assertIs(is_draw(D, (0, 0), ((1, -1), (0, 0))), False)
        self.assertIs(is_draw(((5,),), (0,), ((-0,),)), True)
        self.assertIs(is_draw(((5,),), (1,), ((-1,),)), False)

    def test_sums_that_agree_only_over_all_drawers(self):
        self.assertIs(is_draw(D, (2, 1), ((1, 0), (1, 1))), False)
        self.assertIs(is_draw(D, (1, 2), ((1, 1), (1, 0))), False)

    def test_wrong_numbers_of_drawers_and_kinds(self):
        for value in [(), ((2, 0),), ((2, 0), (1, 0), (0, 0)), ((2, 0), (1,)), ((2,), (1, 0)),
                      ((2, 0, 0), (1, 0)), ((2, 0), (1, 0, 0)), ((), ())]:
            with self.subTest(value=value):
                self.assertIs(is_draw(D, (2, 1), value), False)
        self.assertIs(is_draw(D, (0, 0), ((), ())), False)
        self.assertIs(is_draw(((0,),), (0,), ()), False)

    def test_strange_values_outside_and_inside(self):
        for value in STRANGE_VALUES:
            with self.subTest(value=value):
                self.assertIs(is_draw(D, (0, 0), value), False)
                self.assertIs(is_draw(D, (0, 0), ((0, 0), value)), False)
                self.assertIs(is_draw(D, (0, 0), (value, (0, 0))), False)
                self.assertIs(is_draw(D, (0, 0), ((0, 0), (0, value))), shape(value) == "0")
                self.assertIs(is_draw(((9,),), (1,), ((value,),)), shape(value) == "1")

    def test_values_with_one_part_replaced(self):
        for draw in [((2, 0), (1, 0)), ((1, 1), (0, 1)), ((1, 1), (1, 0))]:
            for value in with_one_part_replaced(draw):
                self.assertIs(is_draw(D, (2, 1), value), brute.is_draw(D, (2, 1), value), value)

    def test_lists_and_nested_values(self):
        draw = ((2, 0), (1, 0))
        for value in [list(draw), in_lists(draw), ([2, 0], (1, 0)), ((2, 0), [1, 0]),
                      ({0: 2, 1: 0}, (1, 0)), {(2, 0): 1, (1, 0): 1}]:
            with self.subTest(value=value):
                self.assertIs(is_draw(D, (2, 1), value), False)
        for levels in range(21):
            self.assertIs(is_draw(((1,),), (1,), nested(1, levels)), levels == 2)

    def test_a_generator_is_not_a_draw_and_stays_as_it_is(self):
        draws = each_draw(D, (1, 1))
        self.assertIs(is_draw(D, (1, 1), draws), False)
        self.assertIs(is_plan(D, draws), False)
        self.assertEqual(next(draws), ((0, 1), (0, 1)))

    def test_numbers_then_bools_then_numbers_again(self):
        draw = ((1, 0), (0, 1))
        self.assertEqual(draw, in_bools(draw))
        for value, answer in [(draw, True), (in_bools(draw), False), (draw, True),
                              (((1, 0), (0, True)), False), (((1, False), (0, 1)), False),
                              (draw, True)]:
            self.assertIs(is_draw(D, (1, 1), value), answer)

    def test_arguments_do_not_change_and_answers_stay_the_same(self):
        for value in [((2, 0), (1, 0)), ((0, 2), (1, 0)), [[2, 0], [1, 0]], {"a": [1]}]:
            unchanged(self, is_draw, D, (2, 1), value)


class RoomInTest(unittest.TestCase):
    def test_example(self):
        self.assertEqual(
            [room_in(D, (0, None), (0,)), room_in(D, (0, None), (0, 1)),
             room_in(D, (None, 0), (1,)), room_in(D, (1, 1), ())],
            [1, 4, 1, 0])

    def test_no_drawers(self):
        for stock in [D, ((7,),), FULL]:
            for cap in (None, 0, 1, MAX_COUNT):
                self.assertEqual(shape(room_in(stock, (cap,) * len(stock[0]), ())), "0")

    def test_no_caps_and_caps_of_zero(self):
        for drawers in brute.sets_of_drawers(FULL):
            self.assertEqual(room_in(FULL, (None,) * 4, drawers), 200 * len(drawers))
            self.assertEqual(room_in(FULL, (0,) * 4, drawers), 0)

    def test_the_cap_counts_once_for_all_drawers(self):
        self.assertEqual(room_in(FULL, (MAX_COUNT,) * 4, (0,)), 200)
        self.assertEqual(room_in(FULL, (MAX_COUNT,) * 4, (0, 1, 2, 3)), 200)
        self.assertEqual(room_in(((2,), (2,), (2,)), (3,), (0, 2)), 3)
        self.assertEqual(room_in(((2,), (2,), (2,)), (4,), (0, 2)), 4)
        self.assertEqual(room_in(((2,), (2,), (2,)), (5,), (0, 2)), 4)

    def test_only_these_drawers_count(self):
        stock = ((1, 10), (2, 20), (4, 40), (8, 50))
        for drawers, room in [((0,), 11), ((1,), 22), ((2,), 44), ((3,), 58), ((0, 2), 55),
                              ((1, 3), 80), ((0, 1, 3), 91), ((0, 1, 2, 3), 135)]:
            self.assertEqual(room_in(stock, (None, None), drawers), room)

    def test_against_adding_thing_by_thing(self):
        dice = Dice(5)
        for _ in range(200):
            stock = dice.stock(1 + dice.throw(3), 1 + dice.throw(3), MAX_COUNT)
            caps = tuple(None if dice.throw(2) == 0 else dice.throw(MAX_COUNT) for _ in stock[0])
            for drawers in brute.sets_of_drawers(stock):
                self.assertEqual(shape(room_in(stock, caps, drawers)),
                                 shape(brute.room_in(stock, caps, drawers)))

    def test_no_more_things_can_be_taken_without_going_above_a_cap(self):
        for stock, _ in small_cases()[::3]:
            for caps in itertools.product((None, 0, 1, 2), repeat=len(stock[0])):
                held = [sum(counts) for counts in brute.numbers_up_to(stock[0])
                        if all(cap is None or count <= cap for count, cap in zip(counts, caps))]
                self.assertEqual(room_in(stock, caps, (0,)), max(held))

    def test_arguments_do_not_change_and_answers_stay_the_same(self):
        unchanged(self, room_in, D, (0, None), (0, 1))
        unchanged(self, room_in, D, (1, 1), ())


if __name__ == "__main__":
    unittest.main()
