"""The guarantees of the document, each over many small stocks and collections."""

import itertools
import unittest

from darkdrawers.bounds import SMALL_THINGS
from darkdrawers.cabinets import Cabinet, HandCabinet
from darkdrawers.least import cheapest_plan, least_plans
from darkdrawers.looking import looking_number
from darkdrawers.plans import (
    certificate_holds, find_certificate, is_plan, is_sure, sure_number, sure_total)
from tests import brute
from tests.model import Model, check_now, check_walk, do_both, thrown_edit, undo_both
from tests.samples import Dice, shape, small_cases, with_one_part_replaced


def sure_plans(stock, collections):
    return {plan: is_sure(stock, collections, plan) for plan in brute.plans_of(stock)}


class GuaranteeTest(unittest.TestCase):
    def test_a_an_unlucky_draw_or_a_table_never_both(self):
        for stock, collections in small_cases():
            rooms = brute.rooms_of(stock, collections)
            for plan in brute.plans_of(stock):
                unlucky = brute.unlucky_draws(stock, collections, plan)
                self.assertIs(bool(unlucky), not brute.is_excluded(rooms, plan))
                found = find_certificate(stock, collections, plan)
                self.assertEqual(found[0], "draw" if unlucky else "table")
                self.assertIs(certificate_holds(stock, collections, plan, found), True)
                if unlucky:
                    tables = itertools.product(brute.sets_of_drawers(stock)[::-1], repeat=len(rooms))
                    others = [("table", table) for table in itertools.islice(tables, 20)]
                else:
                    others = [("draw", draw) for draw in brute.draws_of(stock, plan)[:20]]
                for other in others:
                    self.assertIs(certificate_holds(stock, collections, plan, other), False)

    def test_b_more_than_a_sure_plan_is_sure(self):
        for stock, collections in small_cases():
            sure = sure_plans(stock, collections)
            for plan in sure:
                for drawer in range(len(stock)):
                    more = plan[:drawer] + (plan[drawer] + 1,) + plan[drawer + 1:]
                    if sure[plan] and is_plan(stock, more):
                        self.assertIs(sure[more], True)

    def test_c_sure_total_is_enough_however_divided_and_one_less_is_not(self):
        for stock, collections in small_cases():
            sure = sure_plans(stock, collections)
            total = sure_total(stock, collections)
            if total is None:
                self.assertNotIn(True, sure.values())
            else:
                self.assertTrue(all(sure[plan] for plan in sure if sum(plan) >= total))
                self.assertTrue([plan for plan in sure if sum(plan) == total - 1 and not sure[plan]])

    def test_d_least_plans_are_sure_and_below_each_sure_plan(self):
        for stock, collections in small_cases():
            least = least_plans(stock, collections)
            sure = [plan for plan, answer in brute.sure_plans(stock, collections).items() if answer]
            self.assertLessEqual(set(least), set(sure))
            for one, other in itertools.permutations(least, 2):
                self.assertFalse(brute.is_above(one, other))
            for plan in sure:
                self.assertTrue([other for other in least
                                 if other == plan or brute.is_above(plan, other)])
            for prices in [(0,) * len(stock), (1,) * len(stock), (3, 1, 2, 1)[:len(stock)]]:
                self.assertIn(cheapest_plan(stock, collections, prices), least or (None,))

    def test_e_looking_never_needs_more_and_as_many_with_one_drawer(self):
        helped = 0
        for stock, collections in small_cases():
            if sum(map(sum, stock)) > SMALL_THINGS:
                continue
            number = looking_number(stock, collections)
            totals = [sum(plan) for plan, answer in sure_plans(stock, collections).items() if answer]
            self.assertIs(number is None, not totals)
            if totals:
                self.assertLessEqual(number, min(totals))
                helped += number < min(totals)
            if len(stock) == 1:
                self.assertEqual(number, sure_number(stock, collections, 0))
        self.assertGreater(helped, 0)

    def test_f_a_cabinet_is_like_a_new_one_with_its_stock_and_collections(self):
        dice = Dice(113)
        for stock, collections in small_cases()[::2]:
            model = Model(stock, collections)
            cabinet = model.new()
            for _ in range(12):
                if dice.throw(3) == 0:
                    undo_both(self, cabinet, model)
                else:
                    do_both(self, cabinet, model, thrown_edit(dice, model))
                self.check_like(cabinet, Cabinet(*model.state()))

    def check_like(self, cabinet, other):
        self.assertEqual(
            shape([cabinet.stock, cabinet.collections, cabinet.sure, cabinet.state(), list(cabinet.walk())]),
            shape([other.stock, other.collections, other.sure, other.state(), list(other.walk())]))
        self.assertTrue(cabinet == other and other == cabinet)
        plan = tuple(sum(drawer) // 2 for drawer in other.stock)
        self.assertEqual(shape(cabinet.certificate(plan)), shape(other.certificate(plan)))
        self.assertEqual(cabinet.sure, sure_total(other.stock, other.collections))

    def test_f_after_edits_and_undos_in_different_orders(self):
        edits = [("put", 0, 0, 1), ("remove", 1, 1, 1), ("wish", (2, 1)), ("put", 1, 0, 2)]
        for order in itertools.permutations(edits):
            for undone, most in itertools.product(range(len(order) + 1), (None, 30)):
                model = Model(((2, 1), (1, 3)), ((1, 1),), most)
                cabinet = model.new()
                for edit in order:
                    do_both(self, cabinet, model, edit)
                for _ in range(undone):
                    undo_both(self, cabinet, model)
                # What was undone is done again, the other way round.
                for edit in order[len(order) - undone:][::-1]:
                    do_both(self, cabinet, model, edit)
                check_now(self, cabinet, model)
                check_walk(self, cabinet, model)

    def test_f_the_same_end_by_different_ways(self):
        ends = []
        for order in itertools.permutations([("put", 0, 0, 1), ("remove", 1, 1, 1), ("wish", (2, 1))]):
            for most in (None, 9):
                cabinet = Model(((2, 1), (1, 3)), ((1, 1),), most).new()
                self.assertEqual(cabinet.attempt(order), 3)
                ends.append((cabinet.stock, cabinet.collections, cabinet.sure, tuple(cabinet.walk())))
        self.assertEqual(len(set(ends)), 1)
        self.assertEqual(ends[0][:3], (((3, 1), (1, 2)), ((1, 1), (2, 1)), 5))

    def test_f_hand_cabinets_are_like_new_ones(self):
        dice = Dice(127)
        for stock, collections in small_cases()[1::4]:
            total = sure_total(stock, collections)
            if total is not None:
                model = Model(stock, collections, total + 3)
                cabinet = model.new()
                for _ in range(8):
                    do_both(self, cabinet, model, thrown_edit(dice, model))
                    self.assertTrue(cabinet == HandCabinet(*model.state(), total + 3))
                    self.assertEqual(list(cabinet.walk()), list(Cabinet(*model.state()).walk()))

    def test_g_whatever_holds_is_correct(self):
        held = 0
        for stock, collections in small_cases()[::4]:
            rooms = brute.rooms_of(stock, collections)
            for plan in brute.plans_of(stock)[::3]:
                made = find_certificate(stock, collections, plan)
                for value in itertools.islice(with_one_part_replaced(made), 0, None, 5):
                    answer = certificate_holds(stock, collections, plan, value)
                    self.assertIs(answer, brute.holds(stock, collections, plan, value, rooms))
                    if answer:
                        held += 1
                        sure = not brute.unlucky_draws(stock, collections, plan)
                        self.assertEqual(value[0], "table" if sure else "draw")
        self.assertGreater(held, 50)


if __name__ == "__main__":
    unittest.main()
