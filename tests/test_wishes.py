import itertools
import unittest

from darkdrawers.bounds import LIMIT, MAX_COLLECTIONS, MAX_COUNT, MAX_KINDS
from darkdrawers.wishes import are_collections, caps_of, fulfilled_by, spoilings_of
from tests import brute
from tests.samples import (
    STRANGE_VALUES, W, Dice, in_bools, in_lists, large_cases, nested, shape, small_cases,
    unchanged, with_one_part_replaced)

# Numbers of kinds with collections for so many.
GOOD_COLLECTIONS = [
    (1, ((1,),)),
    (1, ((MAX_COUNT,),)),
    (1, ((1,),) * MAX_COLLECTIONS),
    (1, ((3,), (2,), (1,), (3,))),
    (2, W),
    (2, ((0, 1),)),
    (2, ((1, 0),)),
    (2, ((2, 2), (3, 0))),
    (3, ((0, MAX_COUNT, 0), (0, 0, 1))),
    (MAX_KINDS, ((0, 0, 0, 1),)),
    (MAX_KINDS, ((1, 0, 0, 0), (0, 1, 0, 0), (0, 0, 1, 0), (0, 0, 0, 1))),
    (MAX_KINDS, ((MAX_COUNT,) * MAX_KINDS,) * MAX_COLLECTIONS),
]

# Numbers of kinds with values that are not collections for so many.
WRONG_COLLECTIONS = [
    (1, ()),
    (1, ((),)),
    (1, ((0,),)),
    (1, ((1,), (0,))),
    (1, ((0,), (1,))),
    (1, ((1,),) * (MAX_COLLECTIONS + 1)),
    (1, ((MAX_COUNT + 1,),)),
    (1, ((-1,),)),
    (1, ((10 ** 39,),)),
    (1, ((True,),)),
    (1, (1,)),
    (1, (("1",),)),
    (1, ("1",)),
    (1, ([1],)),
    (1, [(1,)]),
    (1, [[1]]),
    (1, {(1,): 1}),
    (1, ({1: 1},)),
    (1, (((1,),),)),
    (1, ((1, 1),)),
    (2, ((0, 0),)),
    (2, ((1, 1), (0, 0))),
    (2, ((1,),)),
    (2, ((1, 1, 1),)),
    (2, ((1, 1), (1,))),
    (2, ((1,), (1, 1))),
    (2, ((1, False),)),
    (2, ((True, 0),)),
    (2, ((2, -1),)),
    (2, ((-1, 1),)),
    (2, ((0, MAX_COUNT + 1),)),
    (2, ((1, None),)),
    (2, ((1, 1), None)),
    (2, ((1, 1), [1, 1])),
    (2, ((1, 1), (1, 1), (1, 1), (1, 1), (1, 1))),
    (3, W),
    (4, ((0, 0, 0, 0),)),
    (4, ((1, 1, 1, 1, 1),)),
]


def expected_collections(kinds, value):
    if type(value) is not tuple or len(value) not in (1, 2, 3, 4):
        return False
    return all(
        brute.are_ints(item, kinds) and set(item) <= set(range(51)) and set(item) != {0}
        for item in value)


class AreCollectionsTest(unittest.TestCase):
    def test_example(self):
        self.assertEqual(
            [are_collections(2, W), are_collections(3, W), are_collections(2, ((0, 0),)),
             are_collections(2, ())],
            [True, False, False, False])

    def test_collections(self):
        for kinds, value in GOOD_COLLECTIONS:
            with self.subTest(kinds=kinds, value=value):
                self.assertIs(are_collections(kinds, value), True)

    def test_collections_are_for_one_number_of_kinds(self):
        for kinds, value in GOOD_COLLECTIONS:
            for other in range(1, MAX_KINDS + 1):
                with self.subTest(kinds=other, value=value):
                    self.assertIs(are_collections(other, value), other == kinds)

    def test_wrong_values(self):
        for kinds, value in WRONG_COLLECTIONS:
            with self.subTest(kinds=kinds, value=value):
                self.assertIs(are_collections(kinds, value), False)

    def test_strange_values_outside_and_inside(self):
        for value in STRANGE_VALUES:
            with self.subTest(value=value):
                self.assertIs(are_collections(1, value), False)
                self.assertIs(are_collections(1, (value,)), False)
                self.assertIs(are_collections(2, ((1, 1), value)), False)
                self.assertIs(are_collections(2, ((1, 1), (1, value))),
                              type(value) is int and 0 <= value <= MAX_COUNT)

    def test_each_number_needed(self):
        for number in list(range(-3, MAX_COUNT + 4)) + [LIMIT, 10 ** 39]:
            with self.subTest(number=number):
                self.assertIs(are_collections(1, ((number,),)), 1 <= number <= MAX_COUNT)
                self.assertIs(are_collections(2, ((1, 1), (number, 1))), 0 <= number <= MAX_COUNT)

    def test_each_number_of_collections_and_kinds(self):
        for many in range(MAX_COLLECTIONS + 3):
            for kinds in range(1, MAX_KINDS + 1):
                for length in range(MAX_KINDS + 3):
                    value = ((1,) * length,) * many
                    with self.subTest(many=many, kinds=kinds, length=length):
                        self.assertIs(are_collections(kinds, value),
                                      1 <= many <= 4 and length == kinds)

    def test_numbers_of_which_only_the_sum_is_not_zero(self):
        self.assertIs(are_collections(2, ((1, -1),)), False)
        self.assertIs(are_collections(3, ((2, -1, -1),)), False)

    def test_all_values_of_few_parts(self):
        parts = [(), (0,), (1,), (50,), (51,), (True,), (0, 0), (0, 1), (1, False), (-1, 2),
                 [1], [0, 1], 1, True, None, "1"]
        for many in range(4):
            for value in itertools.product(parts, repeat=many):
                for kinds in (1, 2):
                    self.assertIs(are_collections(kinds, value),
                                  expected_collections(kinds, value), (kinds, value))

    def test_values_with_one_part_replaced(self):
        for kinds, collections in GOOD_COLLECTIONS:
            for value in with_one_part_replaced(collections):
                self.assertIs(are_collections(kinds, value),
                              expected_collections(kinds, value), (kinds, value))

    def test_nested_values(self):
        for levels in range(21):
            with self.subTest(levels=levels):
                self.assertIs(are_collections(1, nested(1, levels)), levels == 2)

    def test_lists(self):
        for kinds, collections in GOOD_COLLECTIONS:
            with self.subTest(collections=collections):
                self.assertIs(are_collections(kinds, in_lists(collections)), False)
                self.assertIs(are_collections(kinds, list(collections)), False)

    def test_numbers_then_bools_then_numbers_again(self):
        numbers = ((0, 1), (1, 1))
        self.assertEqual(numbers, in_bools(numbers))
        for value, answer in [(numbers, True), (in_bools(numbers), False), (numbers, True),
                              (((0, 1), (1, True)), False), (numbers, True)]:
            self.assertIs(are_collections(2, value), answer)

    def test_arguments_do_not_change_and_answers_stay_the_same(self):
        for kinds, value in GOOD_COLLECTIONS + WRONG_COLLECTIONS:
            unchanged(self, are_collections, kinds, value)


class FulfilledByTest(unittest.TestCase):
    def test_example(self):
        self.assertEqual(
            [fulfilled_by(W, (1, 4)), fulfilled_by(W, (9, 0)), fulfilled_by(((2, 2), (3, 0)), (3, 1))],
            [0, None, 1])

    def test_one_number(self):
        for needed in (1, 2, 7, MAX_COUNT):
            for number, answer in [(0, None), (needed - 1, None), (needed, 0), (needed + 1, 0),
                                   (LIMIT, 0)]:
                with self.subTest(needed=needed, number=number):
                    self.assertEqual(shape(fulfilled_by(((needed,),), (number,))), shape(answer))

    def test_each_kind_must_suffice(self):
        needs = (3, 0, 5, 1)
        self.assertEqual(fulfilled_by((needs,), needs), 0)
        for kind in (0, 2, 3):
            counts = list(needs)
            counts[kind] -= 1
            with self.subTest(kind=kind):
                self.assertIsNone(fulfilled_by((needs,), tuple(counts)))
                counts = [LIMIT] * 4
                counts[kind] = needs[kind] - 1
                self.assertIsNone(fulfilled_by((needs,), tuple(counts)))

    def test_the_first_of_several(self):
        collections = ((4, 0), (0, 4), (2, 2), (2, 2))
        for counts, answer in [((4, 4), 0), ((4, 0), 0), ((3, 4), 1), ((3, 3), 2), ((2, 2), 2),
                               ((1, 3), None), ((0, 0), None), ((LIMIT, LIMIT), 0)]:
            with self.subTest(counts=counts):
                self.assertEqual(shape(fulfilled_by(collections, counts)), shape(answer))

    def test_the_last_of_four(self):
        collections = ((1, 0, 0, 0), (0, 1, 0, 0), (0, 0, 1, 0), (0, 0, 0, 1))
        for index in range(4):
            counts = tuple(int(kind == index) for kind in range(4))
            self.assertEqual(fulfilled_by(collections, counts), index)
        self.assertIsNone(fulfilled_by(collections, (0, 0, 0, 0)))

    def test_all_small_counts(self):
        for _, collections in small_cases():
            for counts in itertools.product(range(4), repeat=len(collections[0])):
                self.assertEqual(shape(fulfilled_by(collections, counts)),
                                 shape(brute.first_fulfilled(collections, counts)))

    def test_arguments_do_not_change_and_answers_stay_the_same(self):
        unchanged(self, fulfilled_by, ((2, 2), (3, 0)), (3, 1))
        unchanged(self, fulfilled_by, ((2, 2), (3, 0)), (2, 1))


class SpoilingsTest(unittest.TestCase):
    def test_example(self):
        self.assertEqual(
            [spoilings_of(W), caps_of(W, (0,)), caps_of(((2, 2), (3, 0)), (0, 0)),
             caps_of(((2, 2), (3, 0)), (1, 0))],
            [((0,), (1,)), (0, None), (1, None), (2, 1)])

    def test_spoilings(self):
        for collections, spoilings in [
            (((5,),), ((0,),)),
            (((5,), (1,), (5,)), ((0, 0, 0),)),
            (((0, 3),), ((1,),)),
            (((3, 0), (0, 3)), ((0, 1),)),
            (((1, 0, 2), (0, 4, 4)), ((0, 1), (0, 2), (2, 1), (2, 2))),
            (((1, 1), (1, 1)), ((0, 0), (0, 1), (1, 0), (1, 1))),
        ]:
            with self.subTest(collections=collections):
                self.assertEqual(shape(spoilings_of(collections)), shape(spoilings))

    def test_caps(self):
        for collections, spoiling, caps in [
            (((1,),), (0,), (0,)),
            (((MAX_COUNT,),), (0,), (MAX_COUNT - 1,)),
            (((5,), (2,), (7,)), (0, 0, 0), (1,)),
            (((3, 0), (0, 3)), (0, 1), (2, 2)),
            (((3, 4, 5, 6),), (2,), (None, None, 4, None)),
            (((3, 4, 5, 6), (9, 2, 1, 1)), (0, 0), (2, None, None, None)),
            (((3, 4, 5, 6), (9, 2, 1, 1)), (1, 2), (None, 3, 0, None)),
            (((9, 1), (8, 1), (7, 1), (9, 1)), (0, 0, 1, 0), (7, 0)),
            (((9, 1), (8, 1), (7, 1), (9, 1)), (0, 1, 1, 0), (8, 0)),
        ]:
            with self.subTest(collections=collections, spoiling=spoiling):
                self.assertEqual(shape(caps_of(collections, spoiling)), shape(caps))

    def test_against_all_choices_of_kinds(self):
        for _, collections in small_cases() + large_cases():
            spoilings = spoilings_of(collections)
            self.assertEqual(shape(spoilings), shape(tuple(brute.spoilings_of(collections))))
            for spoiling in spoilings:
                self.assertEqual(shape(caps_of(collections, spoiling)),
                                 shape(brute.caps_of(collections, spoiling)))

    def test_at_the_limits(self):
        for collections in [((1,) * 4,) * 4, ((MAX_COUNT,) * 4,) * 4]:
            spoilings = spoilings_of(collections)
            self.assertEqual(spoilings, tuple(itertools.product(range(4), repeat=4)))
            self.assertEqual(caps_of(collections, (0, 1, 2, 3)), (collections[0][0] - 1,) * 4)
            self.assertEqual(caps_of(collections, (3, 3, 3, 3)),
                             (None, None, None, collections[0][0] - 1))

    def test_counts_fulfil_no_collection_exactly_if_some_caps_hold_them(self):
        for _, collections in small_cases():
            caps_of_all = [caps_of(collections, spoiling) for spoiling in spoilings_of(collections)]
            for counts in itertools.product(range(4), repeat=len(collections[0])):
                held = any(all(cap is None or count <= cap for count, cap in zip(counts, caps))
                           for caps in caps_of_all)
                self.assertIs(fulfilled_by(collections, counts) is None, held)

    def test_arguments_do_not_change_and_answers_stay_the_same(self):
        dice = Dice(3)
        for many in range(1, 5):
            collections = dice.collections(many, 3, 5)
            unchanged(self, spoilings_of, collections)
            unchanged(self, caps_of, collections, spoilings_of(collections)[-1])


if __name__ == "__main__":
    unittest.main()
