import itertools
import unittest

from darkdrawers.plans import certificate_holds, find_certificate, is_sure
from tests import brute
from tests.samples import (
    EDGE_CASES, FULL, STRANGE_VALUES, D, Dice, W, in_bools, in_lists, large_cases, nested, shape,
    small_cases, unchanged, with_one_part_replaced)


def plans_around(rooms, stock, dice):
    """A plan with an unlucky draw, and one with one thing more that is sure or takes all things."""
    low = (0,) * len(stock)
    high = tuple(sum(drawer) for drawer in stock)
    while sum(high) - sum(low) > 1:
        plan = tuple(few + dice.throw(many - few) for few, many in zip(low, high))
        if plan not in (low, high):
            if brute.is_excluded(rooms, plan):
                high = plan
            else:
                low = plan
    return low, high


def large_plans(rooms, stock, dice):
    """Plans that take nothing, all, anything, and those around what is just enough."""
    yield (0,) * len(stock)
    yield tuple(sum(drawer) for drawer in stock)
    for _ in range(5):
        yield dice.plan(stock)
    for _ in range(5):
        yield from plans_around(rooms, stock, dice)


class ExamplesTest(unittest.TestCase):
    def test_find_certificate(self):
        self.assertEqual(
            [find_certificate(D, W, (2, 1)), find_certificate(D, W, (2, 2))[0]],
            [("draw", ((2, 0), (1, 0))), "table"])

    def test_certificate_holds(self):
        self.assertEqual(
            [certificate_holds(D, W, (2, 2), ("table", ((0,), (1,)))),
             certificate_holds(D, W, (2, 2), ("table", ((0,), (0, 1)))),
             certificate_holds(D, W, (2, 2), ("table", ((1,), (1,))))],
            [True, True, False])

    def test_is_sure(self):
        self.assertEqual(
            [is_sure(D, W, (2, 1)), is_sure(D, W, (2, 2)), is_sure(D, W, (1, 3))],
            [False, True, False])


class SmallStocksTest(unittest.TestCase):
    """All plans of small stocks, against all their draws and all tables."""

    def check_plan(self, stock, collections, plan, rooms):
        unlucky = brute.unlucky_draws(stock, collections, plan)
        excluded = brute.is_excluded(rooms, plan)
        self.assertEqual(bool(unlucky), not excluded)
        self.assertIs(is_sure(stock, collections, plan), excluded)
        certificate = find_certificate(stock, collections, plan)
        self.assertEqual(certificate[0], "table" if excluded else "draw")
        self.assertTrue(brute.holds(stock, collections, plan, certificate, rooms))
        self.assertIs(certificate_holds(stock, collections, plan, certificate), True)

    def test_one_certificate_for_each_plan(self):
        for stock, collections in small_cases():
            rooms = brute.rooms_of(stock, collections)
            for plan in brute.plans_of(stock):
                with self.subTest(stock=stock, collections=collections, plan=plan):
                    self.check_plan(stock, collections, plan, rooms)

    def test_no_other_draw_and_no_other_table_holds(self):
        for stock, collections in small_cases()[::3]:
            rooms = brute.rooms_of(stock, collections)
            tables = list(itertools.islice(
                itertools.product(brute.sets_of_drawers(stock)[::-1], repeat=len(rooms)), 100))
            for plan in brute.plans_of(stock)[::-3]:
                values = [("draw", draw) for draw in brute.draws_of(stock, plan)]
                values += [("table", table) for table in tables]
                for value in values:
                    self.assertIs(certificate_holds(stock, collections, plan, value),
                                  brute.holds(stock, collections, plan, value, rooms))

    def test_never_a_draw_and_a_table(self):
        seen = {"draw": 0, "table": 0}
        for stock, collections in EDGE_CASES:
            found = {plan: find_certificate(stock, collections, plan)
                     for plan in brute.plans_of(stock)}
            for plan, (word, _) in found.items():
                seen[word] += 1
                for other in found.values():
                    if other[0] != word:
                        self.assertIs(certificate_holds(stock, collections, plan, other), False)
        self.assertTrue(seen["draw"] and seen["table"])

    def test_a_plan_that_takes_more_than_a_sure_one_is_sure(self):
        for stock, collections in small_cases():
            sure = {plan: is_sure(stock, collections, plan) for plan in brute.plans_of(stock)}
            for plan, other in itertools.product(sure, sure):
                if sure[plan] and all(few <= many for few, many in zip(plan, other)):
                    self.assertIs(sure[other], True)


class EdgesTest(unittest.TestCase):
    def test_plans_that_take_nothing_and_all(self):
        for stock, collections in small_cases() + large_cases():
            nothing = (0,) * len(stock)
            none = tuple((0,) * len(drawer) for drawer in stock)
            sizes = tuple(sum(drawer) for drawer in stock)
            self.assertEqual(find_certificate(stock, collections, nothing), ("draw", none))
            self.assertIs(is_sure(stock, collections, nothing), False)
            if brute.is_unlucky(collections, stock):
                self.assertEqual(find_certificate(stock, collections, sizes), ("draw", stock))
            else:
                self.assertEqual(find_certificate(stock, collections, sizes)[0], "table")

    def test_one_drawer_kind_and_collection(self):
        for number in range(6):
            value = find_certificate(((5,),), ((3,),), (number,))
            if number < 3:
                self.assertEqual(shape(value), shape(("draw", ((number,),))))
            else:
                self.assertEqual(shape(value), shape(("table", ((0,),))))

    def test_the_only_sure_sets_of_drawers(self):
        stock = ((1, 0), (0, 1), (3, 3))
        self.assertEqual(find_certificate(stock, ((1, 1),), (1, 1, 0)),
                         ("table", ((0,), (1,))))
        self.assertEqual(find_certificate(((0, 0), (1, 1)), W, (0, 2)), ("table", ((1,), (1,))))

    def test_drawers_that_overload_only_together(self):
        stock = ((1, 1), (1, 1))
        self.assertEqual(find_certificate(stock, ((2, 2),), (2, 2)), ("table", ((0, 1), (0, 1))))
        self.assertEqual(find_certificate(stock, ((2, 2),), (2, 1))[0], "draw")
        self.assertEqual(find_certificate(((1, 0), (1, 0), (1, 0)), ((3, 0),), (1, 1, 1)),
                         ("table", ((0, 1, 2),)))

    def test_only_one_way_to_an_unlucky_draw(self):
        stock = ((1, 1, 0), (0, 1, 1), (1, 0, 1))
        self.assertEqual(find_certificate(stock, ((2, 0, 0), (0, 0, 1)), (2, 1, 0)),
                         ("draw", ((1, 1, 0), (0, 1, 0), (0, 0, 0))))
        self.assertEqual(find_certificate(((2, 2), (2, 0)), ((2, 1),), (2, 2)),
                         ("draw", ((2, 0), (2, 0))))
        self.assertEqual(find_certificate(((2, 2), (2, 0)), ((3, 0),), (2, 2)),
                         ("draw", ((0, 2), (2, 0))))

    def test_the_empty_set_of_drawers_excludes_nothing(self):
        self.assertIs(certificate_holds(D, W, (2, 2), ("table", ((0,), ()))), False)
        self.assertIs(certificate_holds(D, W, (3, 4), ("table", ((), ()))), False)
        self.assertIs(certificate_holds(((0,),), ((1,),), (0,), ("table", ((),))), False)

    def test_as_many_things_as_the_room_are_not_excluded(self):
        self.assertIs(certificate_holds(((5,),), ((3,),), (2,), ("table", ((0,),))), False)
        self.assertIs(certificate_holds(((5,),), ((3,),), (3,), ("table", ((0,),))), True)


class WrongCertificatesTest(unittest.TestCase):
    CASES = [
        (D, W, (2, 1)),
        (D, W, (2, 2)),
        (D, ((1, 1), (3, 0)), (2, 3)),
        (((1, 1), (1, 1)), ((1, 1), (1, 0)), (2, 0)),
        (((1, 1), (1, 1)), ((2, 2),), (1, 0)),
        (((1,),), ((1,),), (1,)),
        (((1,),), ((1,),), (0,)),
        (((2, 0, 1), (0, 2, 1), (1, 1, 1)), ((1, 1, 1),), (3, 3, 3)),
    ]

    def check_value(self, stock, collections, plan, value):
        self.assertIs(certificate_holds(stock, collections, plan, value),
                      brute.holds(stock, collections, plan, value), (stock, plan, value))

    def test_one_part_replaced_at_any_depth(self):
        for stock, collections, plan in self.CASES:
            certificate = find_certificate(stock, collections, plan)
            for value in with_one_part_replaced(certificate):
                self.check_value(stock, collections, plan, value)

    def test_strange_values(self):
        for stock, collections, plan in self.CASES:
            for value in STRANGE_VALUES:
                for made in [value, (value, value), ("draw", value), ("table", value),
                             ("table", (value,)), ("draw", (value,) * len(stock)),
                             ("table", (value, value))]:
                    self.assertIs(certificate_holds(stock, collections, plan, made), False)

    def test_lists(self):
        for stock, collections, plan in self.CASES:
            word, proof = find_certificate(stock, collections, plan)
            for value in [[word, proof], in_lists((word, proof)), (word, list(proof)),
                          (word, in_lists(proof)), (word, tuple(map(list, proof)))]:
                self.assertIs(certificate_holds(stock, collections, plan, value), False)

    def test_wrong_words(self):
        for stock, collections, plan in self.CASES:
            word, proof = find_certificate(stock, collections, plan)
            other = "table" if word == "draw" else "draw"
            for wrong in [other, word.upper(), word + " ", word[:-1], "", None, True, 0, (word,),
                          list(word), word.encode()]:
                self.assertIs(certificate_holds(stock, collections, plan, (wrong, proof)), False)

    def test_too_few_and_too_many_parts(self):
        for stock, collections, plan in self.CASES:
            word, proof = find_certificate(stock, collections, plan)
            for value in [(), (word,), (proof,), (word, proof, proof), (word, proof, None), proof,
                          (word, proof[:-1]), (word, proof + proof[:1]), (word, ()),
                          (word, *proof, None)]:
                self.assertIs(certificate_holds(stock, collections, plan, value), False)

    def test_drawers_that_are_not_an_ascending_tuple_of_drawers(self):
        stock = ((1, 1), (1, 1), (1, 1))
        good = ((0, 1, 2), (0, 1, 2))
        self.assertIs(certificate_holds(stock, ((2, 2),), (2, 2, 2), ("table", good)), True)
        for drawers in [(0, 2, 1), (2, 1, 0), (1, 0, 2), (0, 0, 1, 2), (0, 1, 1, 2), (0, 1, 2, 2),
                        (0, 1, 2, 3), (-1, 0, 1, 2), (-3, -2, -1), (-1, 0, 1), (1, 2, 3),
                        (False, True, 2), (0, True, 2), (0, 1, "2"), "012", [0, 1, 2], 0, None,
                        {0: 1, 1: 1, 2: 1}, ((0,), (1,), (2,)), (0, 1, 10 ** 39)]:
            for table in [(drawers, good[0]), (good[0], drawers)]:
                with self.subTest(table=table):
                    value = ("table", table)
                    self.assertIs(certificate_holds(stock, ((2, 2),), (2, 2, 2), value), False)

    def test_a_draw_of_another_plan(self):
        for stock, collections in EDGE_CASES:
            plans = brute.plans_of(stock)[:60]
            for plan, other in itertools.product(plans, plans):
                value = find_certificate(stock, collections, plan)
                if value[0] == "draw":
                    self.assertIs(certificate_holds(stock, collections, other, value), plan == other)

    def test_a_draw_that_is_not_unlucky(self):
        self.assertIs(certificate_holds(D, W, (2, 1), ("draw", ((1, 1), (1, 0)))), False)
        self.assertIs(certificate_holds(D, W, (2, 1), ("draw", ((2, 0), (0, 1)))), False)
        self.assertIs(certificate_holds(D, W, (2, 1), ("draw", ((2, 0), (1, 0)))), True)
        self.assertIs(certificate_holds(D, ((9, 9), (3, 0)), (2, 1), ("draw", ((2, 0), (1, 0)))),
                      False)

    def test_a_table_for_another_plan_or_other_collections(self):
        table = find_certificate(D, W, (2, 2))
        for plan in brute.plans_of(D):
            self.check_value(D, W, plan, table)
        self.assertIs(certificate_holds(D, W, (2, 1), table), False)
        self.assertIs(certificate_holds(D, ((1, 1), (1, 1)), (2, 2), table), False)
        self.assertIs(certificate_holds(D, ((1, 2),), (2, 2), table), False)

    def test_the_spoilings_have_an_order(self):
        self.assertIs(certificate_holds(D, W, (2, 2), ("table", ((0,), (1,)))), True)
        self.assertIs(certificate_holds(D, W, (2, 2), ("table", ((1,), (0,)))), False)

    def test_great_ints(self):
        for number in (10 ** 39, -(10 ** 39)):
            for value in [("draw", ((number, 0), (1, 0))), ("draw", ((2, 0), (1, number))),
                          ("table", ((number,), (1,))), ("table", ((0,), (1, number)))]:
                for plan in [(2, 1), (2, 2)]:
                    self.assertIs(certificate_holds(D, W, plan, value), False)

    def test_nested_values(self):
        for levels in range(1, 21):
            for value in [nested(find_certificate(D, W, (2, 2)), levels),
                          ("table", nested((0,), levels)), ("draw", nested((2, 0), levels))]:
                self.assertIs(certificate_holds(D, W, (2, 2), value), False)

    def test_numbers_then_bools_then_numbers_again(self):
        for plan in [(2, 2), (1, 1)]:
            word, proof = find_certificate(D, W, plan)
            self.assertEqual(proof, in_bools(proof))
            for value, answer in [(proof, True), (in_bools(proof), False), (proof, True),
                                  ((in_bools(proof[0]), proof[1]), False), (proof, True)]:
                self.assertIs(certificate_holds(D, W, plan, (word, value)), answer)


class LargeStocksTest(unittest.TestCase):
    """Stocks at the limits, against the table of rooms of the sets of drawers."""

    def test_certificates(self):
        dice = Dice(13)
        seen = {"draw": 0, "table": 0}
        for stock, collections in large_cases():
            rooms = brute.rooms_of(stock, collections)
            for plan in large_plans(rooms, stock, dice):
                with self.subTest(stock=stock, collections=collections, plan=plan):
                    value = find_certificate(stock, collections, plan)
                    excluded = brute.is_excluded(rooms, plan)
                    self.assertEqual(value[0], "table" if excluded else "draw")
                    self.assertTrue(brute.holds(stock, collections, plan, value, rooms))
                    self.assertIs(certificate_holds(stock, collections, plan, value), True)
                    self.assertIs(is_sure(stock, collections, plan), excluded)
                    seen[value[0]] += 1
        self.assertGreater(min(seen.values()), 80)

    def test_tables_with_one_set_of_drawers_replaced(self):
        dice = Dice(17)
        answers = []
        for stock, collections in large_cases():
            rooms = brute.rooms_of(stock, collections)
            sets = brute.sets_of_drawers(stock)
            _, plan = plans_around(rooms, stock, dice)
            allowed = brute.excluding_sets(rooms, plan)
            for _ in range(20):
                table = [row[dice.throw(len(row) - 1)] if row else () for row in allowed]
                table[dice.throw(len(table) - 1)] = sets[dice.throw(len(sets) - 1)]
                value = ("table", tuple(table))
                answers.append(certificate_holds(stock, collections, plan, value))
                self.assertIs(answers[-1], brute.holds(stock, collections, plan, value, rooms))
        self.assertGreater(min(answers.count(True), answers.count(False)), 20)

    def test_draws_with_one_number_replaced(self):
        collections = ((50, 50, 50, 50), (40, 50, 30, 20))
        plan = (40, 50, 30, 20)
        word, draw = find_certificate(FULL, collections, plan)
        self.assertEqual(word, "draw")
        for drawer, kind, number in itertools.product(range(4), range(4), (-1, 0, 10, 50, 51)):
            rows = [list(counts) for counts in draw]
            rows[drawer][kind] = number
            value = ("draw", tuple(map(tuple, rows)))
            self.assertIs(certificate_holds(FULL, collections, plan, value), value == (word, draw))


class PureTest(unittest.TestCase):
    def test_arguments_do_not_change_and_answers_stay_the_same(self):
        for stock, collections in EDGE_CASES + large_cases()[:4]:
            for plan in brute.plans_of(stock)[:6] if sum(map(sum, stock)) < 30 else [(60,) * 4]:
                unchanged(self, find_certificate, stock, collections, plan)
                unchanged(self, is_sure, stock, collections, plan)
                value = find_certificate(stock, collections, plan)
                unchanged(self, certificate_holds, stock, collections, plan, value)
                unchanged(self, certificate_holds, stock, collections, plan, in_lists(value))

    def test_other_questions_between_do_not_matter(self):
        first = find_certificate(D, W, (2, 1))
        find_certificate(D, ((3, 0),), (2, 1))
        find_certificate(D, W, (2, 2))
        find_certificate(D[::-1], W, (2, 1))
        self.assertEqual(find_certificate(D, W, (2, 1)), first)


if __name__ == "__main__":
    unittest.main()
