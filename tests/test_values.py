import itertools
import unittest

from darkdrawers.bounds import LIMIT, MAX_COLLECTIONS, MAX_COUNT, MAX_KINDS
from darkdrawers.errors import (
    BadCounts, BadHeap, BadKinds, BadWish, NoKind, OtherKinds, TooFew, TooMuch)
from darkdrawers.values import Heap, Wish
from tests import brute
from tests.samples import (
    STRANGE_VALUES, W, Dice, check_raises, in_bools, in_lists, nested, shape, small_cases,
    with_one_part_replaced)

GOOD_COUNTS = [
    (0,), (1,), (7,), (MAX_COUNT + 1,), (LIMIT,),
    (0, 0), (2, 1), (LIMIT, 0), (0, LIMIT),
    (1, 2, 3), (2, 10, 1000),
    (0,) * MAX_KINDS, (LIMIT,) * MAX_KINDS, (1, 0, LIMIT, 999),
]
WRONG_COUNTS = [
    (), (0,) * (MAX_KINDS + 1), (LIMIT,) * 6,
    (-1,), (LIMIT + 1,), (10 ** 39,), (0, -1), (-1, 0), (LIMIT, LIMIT + 1), (1, 1, 1, -1),
    (True,), (False,), (0, True), (1, False),
    (None,), ("1",), (1, "1"), ((1,),), ([1],), (1, [1]), ({},), (1, None),
    [1], [2, 1], {"0": 1}, "21", "(2, 1)", 21, None, ((2, 1),), [(2, 1)],
    Heap((2, 1)), (Heap((2, 1)),), (2, Heap((1,))),
]


def are_counts(value):
    return (type(value) is tuple and len(value) in (1, 2, 3, 4)
            and all(type(count) is int and 0 <= count <= 1000000 for count in value))


class HeapTest(unittest.TestCase):
    def test_example(self):
        heap = Heap((2, 1))
        self.assertEqual([heap.counts, len(heap)], [(2, 1), 2])

    def test_counts_and_len(self):
        for counts in GOOD_COUNTS:
            with self.subTest(counts=counts):
                heap = Heap(counts)
                self.assertEqual(shape(heap.counts), shape(counts))
                self.assertEqual(shape(len(heap)), shape(len(counts)))

    def test_wrong_counts(self):
        for value in WRONG_COUNTS + STRANGE_VALUES:
            with self.subTest(value=value):
                check_raises(self, BadCounts(value), Heap, value)

    def test_each_number(self):
        for number in [-LIMIT, -2, -1, 0, 1, 2, LIMIT - 1, LIMIT, LIMIT + 1, 10 ** 39]:
            for counts in [(number,), (number, 0), (3, number), (0, 0, 0, number)]:
                with self.subTest(counts=counts):
                    if 0 <= number <= LIMIT:
                        self.assertEqual(Heap(counts).counts, counts)
                    else:
                        check_raises(self, BadCounts(counts), Heap, counts)

    def test_each_number_of_kinds(self):
        for kinds in range(8):
            counts = (1,) * kinds
            if 1 <= kinds <= MAX_KINDS:
                self.assertEqual(len(Heap(counts)), kinds)
            else:
                check_raises(self, BadCounts(counts), Heap, counts)

    def test_counts_with_one_part_replaced(self):
        for counts in GOOD_COUNTS:
            for value in with_one_part_replaced(counts):
                if are_counts(value):
                    self.assertEqual(shape(Heap(value).counts), shape(value))
                else:
                    check_raises(self, BadCounts(value), Heap, value)

    def test_nested_counts(self):
        for levels in range(21):
            value = nested(1, levels)
            if levels == 1:
                self.assertEqual(Heap(value).counts, (1,))
            else:
                check_raises(self, BadCounts(value), Heap, value)

    def test_numbers_then_bools_then_numbers_again(self):
        for _ in range(2):
            self.assertEqual(shape(Heap((0, 1)).counts), "(0, 1)")
            check_raises(self, BadCounts((False, True)), Heap, (False, True))
            check_raises(self, BadCounts([0, 1]), Heap, [0, 1])


class HeapItemTest(unittest.TestCase):
    def test_example(self):
        self.assertEqual(Heap((2, 1))[1], 1)

    def test_each_kind(self):
        for counts in GOOD_COUNTS:
            heap = Heap(counts)
            for kind, count in enumerate(counts):
                self.assertEqual(shape(heap[kind]), shape(count))

    def test_kinds_that_there_are_not(self):
        for counts in GOOD_COUNTS:
            heap = Heap(counts)
            for value in (-1, -len(counts), len(counts), len(counts) + 1, LIMIT, 10 ** 39):
                with self.subTest(counts=counts, value=value):
                    check_raises(self, NoKind(value), heap.__getitem__, value)

    def test_values_that_are_no_kinds(self):
        heap = Heap((2, 1))
        others = [(0,), (), ((),), "0", Heap((0, 0)), heap, [0], {"0": 0}]
        for value in STRANGE_VALUES + others:
            with self.subTest(value=value):
                if type(value) is int and value in (0, 1):
                    self.assertEqual(heap[value], (2, 1)[value])
                else:
                    with self.assertRaises(LookupError) as held:
                        heap[value]
                    self.assertIs(type(held.exception), NoKind)
                    self.assertEqual(shape(held.exception.value), shape(value))

    def test_true_and_false_are_no_kinds(self):
        heap = Heap((2, 1))
        for _ in range(2):
            self.assertEqual([heap[0], heap[1]], [2, 1])
            for value in (True, False):
                check_raises(self, NoKind(value), heap.__getitem__, value)

    def test_a_loop_raises_an_error(self):
        for counts in GOOD_COUNTS:
            heap = Heap(counts)
            for loop in (list, tuple, iter, sum, lambda value: [count for count in value]):
                with self.assertRaises(TypeError):
                    loop(heap)
            with self.assertRaises(TypeError):
                for _ in heap:
                    pass
            self.assertEqual(heap.counts, counts)


class HeapSumTest(unittest.TestCase):
    def test_example(self):
        one, other = Heap((2, 1)), Heap((1, 0))
        self.assertEqual([(one + other).counts, (one - other).counts], [(3, 1), (1, 1)])

    def test_all_small_heaps(self):
        for kinds, most in [(1, 6), (2, 3), (3, 1)]:
            rows = list(itertools.product(range(most + 1), repeat=kinds))
            for one, other in itertools.product(rows, rows):
                self.check_sum(one, other)
                self.check_difference(one, other)

    def check_sum(self, one, other):
        heaps = Heap(one), Heap(other)
        total = heaps[0] + heaps[1]
        self.assertIs(type(total), Heap)
        self.assertEqual(shape(total.counts), shape(brute.added([one, other], range(len(one)))))
        self.assertEqual([heap.counts for heap in heaps], [one, other])

    def check_difference(self, one, other):
        heaps = Heap(one), Heap(other)
        short = [kind for kind in range(len(one)) if other[kind] > one[kind]]
        if short:
            check_raises(self, TooFew(short[0]), heaps[0].__sub__, heaps[1])
        else:
            left = heaps[0] - heaps[1]
            self.assertIs(type(left), Heap)
            self.assertEqual(brute.added([left.counts, other], range(len(one))), one)
        self.assertEqual([heap.counts for heap in heaps], [one, other])

    def test_thrown_heaps(self):
        dice = Dice(41)
        for kinds in range(1, 5):
            for _ in range(40):
                one, other = dice.counts(kinds, LIMIT // 2), dice.counts(kinds, LIMIT // 2)
                self.check_sum(one, other)
                self.check_difference(one, other)

    def test_a_sum_of_exactly_the_limit_and_one_more(self):
        for kinds in range(1, 5):
            for kind in range(kinds):
                for most, one in [(0, LIMIT), (1, LIMIT - 1), (LIMIT, 0), (400000, 600000)]:
                    other = tuple(most if at == kind else 0 for at in range(kinds))
                    full = tuple(one if at == kind else 5 for at in range(kinds))
                    total = (Heap(full) + Heap(other)).counts
                    self.assertEqual(total[kind], LIMIT)
                    if most < LIMIT:
                        more = tuple(most + 1 if at == kind else 0 for at in range(kinds))
                        check_raises(self, TooMuch(LIMIT + 1), Heap(full).__add__, Heap(more))

    def test_the_first_of_several_totals_that_are_too_great(self):
        for one, other, total in [
            ((LIMIT, LIMIT), (1, 2), LIMIT + 1),
            ((LIMIT, LIMIT), (2, 1), LIMIT + 2),
            ((LIMIT, LIMIT), (0, 7), LIMIT + 7),
            ((LIMIT, 0, LIMIT, LIMIT), (0, LIMIT, 9, 5), LIMIT + 9),
            ((LIMIT,) * 4, (LIMIT,) * 4, 2 * LIMIT),
            ((3, 600000, 700000), (5, 600000, 700000), 1200000),
        ]:
            with self.subTest(one=one, other=other):
                with self.assertRaises(TooMuch) as held:
                    Heap(one) + Heap(other)
                self.assertEqual(shape(held.exception.total), shape(total))

    def test_a_difference_of_exactly_nothing_and_one_less(self):
        for counts in GOOD_COUNTS:
            self.assertEqual((Heap(counts) - Heap(counts)).counts, (0,) * len(counts))
            for kind in range(len(counts)):
                if counts[kind]:
                    less = counts[:kind] + (counts[kind] - 1,) + counts[kind + 1:]
                    check_raises(self, TooFew(kind), Heap(less).__sub__, Heap(counts))

    def test_the_first_of_several_kinds_of_which_there_are_too_few(self):
        for one, other, kind in [
            ((0, 0), (1, 2), 0), ((0, 0), (0, 1), 1), ((5, 0, 0), (5, 1, 9), 1),
            ((0, 0, 0, 0), (0, 0, 0, LIMIT), 3), ((9, 1, 9, 0), (9, 2, 8, 1), 1),
            ((1, 1), (LIMIT, 0), 0),
        ]:
            with self.subTest(one=one, other=other):
                with self.assertRaises(TooFew) as held:
                    Heap(one) - Heap(other)
                self.assertEqual(shape(held.exception.kind), shape(kind))

    def test_other_numbers_of_kinds_come_first(self):
        for few, many in itertools.permutations(range(1, 5), 2):
            for low, high in [(0, 0), (LIMIT, LIMIT), (0, LIMIT), (LIMIT, 0)]:
                one, other = Heap((low,) * few), Heap((high,) * many)
                with self.assertRaises(OtherKinds):
                    one + other
                with self.assertRaises(OtherKinds):
                    one - other
                self.assertEqual([one.counts, other.counts], [(low,) * few, (high,) * many])

    def test_errors_leave_the_operands_as_they_are(self):
        one, other = Heap((LIMIT, 0)), Heap((1, 1))
        for _ in range(2):
            check_raises(self, TooMuch(LIMIT + 1), one.__add__, other)
            check_raises(self, TooFew(1), one.__sub__, other)
            self.assertEqual([one.counts, other.counts], [(LIMIT, 0), (1, 1)])

    def test_a_heap_with_itself(self):
        heap = Heap((3, 0, 4))
        self.assertEqual((heap + heap).counts, (6, 0, 8))
        self.assertEqual((heap - heap).counts, (0, 0, 0))
        self.assertEqual(heap.counts, (3, 0, 4))

    def test_results_are_heaps_of_their_own(self):
        heap, nothing = Heap((3, 1)), Heap((0, 0))
        total = heap + nothing
        self.assertEqual(total, heap)
        heap += Heap((1, 1))
        self.assertEqual([heap.counts, total.counts, nothing.counts], [(4, 2), (3, 1), (0, 0)])


class HeapInTest(unittest.TestCase):
    def test_example(self):
        one, other = Heap((2, 1)), Heap((1, 0))
        self.assertEqual([other in one, one in other], [True, False])

    def test_all_small_heaps(self):
        for kinds, most in [(1, 4), (2, 2), (3, 1)]:
            rows = list(itertools.product(range(most + 1), repeat=kinds))
            for one, other in itertools.product(rows, rows):
                inside = not [kind for kind in range(kinds) if other[kind] > one[kind]]
                self.assertIs(Heap(other) in Heap(one), inside)

    def test_itself_and_one_more_of_a_kind(self):
        for counts in GOOD_COUNTS:
            self.assertIs(Heap(counts) in Heap(counts), True)
            for kind in range(len(counts)):
                if counts[kind] < LIMIT:
                    more = counts[:kind] + (counts[kind] + 1,) + counts[kind + 1:]
                    self.assertIs(Heap(more) in Heap(counts), False)
                    self.assertIs(Heap(counts) in Heap(more), True)

    def test_other_numbers_of_kinds(self):
        for few, many in itertools.permutations(range(1, 5), 2):
            self.assertIs(Heap((0,) * few) in Heap((LIMIT,) * many), False)
            self.assertIs(Heap((0,) * few) in Heap((0,) * many), False)

    def test_values_that_are_no_heaps(self):
        heap = Heap((2, 1))
        for value in STRANGE_VALUES + WRONG_COUNTS + GOOD_COUNTS + [2, 1, (0, 0), W, Wish(2, W)]:
            if not isinstance(value, Heap):
                with self.subTest(value=value):
                    self.assertIs(value in heap, False)
        self.assertEqual(heap.counts, (2, 1))


class HeapTextTest(unittest.TestCase):
    def test_example(self):
        heap = Heap((2, 10, 1000))
        self.assertEqual([str(heap), heap == Heap((2, 10, 1000)), heap == (2, 10, 1000)],
                         ["  2 101000", True, False])

    def test_three_columns_or_more(self):
        for counts, text in [
            ((0,), "  0"), ((9,), "  9"), ((10,), " 10"), ((99,), " 99"), ((100,), "100"),
            ((999,), "999"), ((1000,), "1000"), ((LIMIT,), "1000000"),
            ((0, 0), "  0  0"), ((100, 2), "100  2"), ((1000, 2), "1000  2"),
            ((12, 345, 6789, 0), " 123456789  0"),
            ((LIMIT,) * 4, "1000000" * 4),
        ]:
            with self.subTest(counts=counts):
                self.assertEqual(str(Heap(counts)), text)

    def test_each_number(self):
        for number in list(range(1200)) + [10 ** 5 - 1, 10 ** 5, LIMIT - 1, LIMIT]:
            digits = repr(number)
            self.assertEqual(str(Heap((number, 7))), " " * (3 - len(digits)) + digits + "  7")

    def test_str_leaves_the_heap_as_it_is(self):
        heap = Heap((2, 10, 1000))
        self.assertEqual([str(heap), str(heap), heap.counts], ["  2 101000"] * 2 + [(2, 10, 1000)])


class HeapEqualTest(unittest.TestCase):
    def test_equal_exactly_if_the_counts_are(self):
        rows = GOOD_COUNTS + [(0, 1), (1, 0), (1, 2), (2, 0, 0), (2,), (2, 1, 0), (1, 2, 4)]
        for one, other in itertools.product(rows, rows):
            self.assertIs(Heap(one) == Heap(other), one == other)
            self.assertIs(Heap(one) != Heap(other), one != other)

    def test_not_equal_to_anything_else(self):
        heap = Heap((0, 1))
        others = [(0, 1), [0, 1], (False, True), ((0, 1),), str(heap), repr(heap), "Heap((0, 1))",
                  {"counts": (0, 1)}, Wish(2, W), W, 0, 1, 2, None]
        for value in STRANGE_VALUES + others:
            with self.subTest(value=value):
                self.assertIs(heap == value, False)
                self.assertIs(value == heap, False)
                self.assertIs(heap != value, True)

    def test_not_equal_to_an_object_with_such_counts(self):
        class Other:
            counts = (0, 1)

        self.assertIs(Heap((0, 1)) == Other(), False)

    def test_equal_heaps_stay_equal_after_other_calls(self):
        one, other = Heap((2, 1)), Heap((2, 1))
        for _ in range(2):
            self.assertTrue(one == other)
            self.assertEqual([one[0], len(one), str(one), (one + other).counts, other in one],
                             [2, 2, "  2  1", (4, 2), True])


class WishTest(unittest.TestCase):
    def test_example(self):
        wish = Wish(2, ((1, 1),))
        self.assertEqual([wish(Heap((2, 1))), wish(Heap((2, 0))), wish.asked], [0, None, 2])

    def test_wrong_kinds(self):
        for value in STRANGE_VALUES + [-1, 0, 5, 6, 10 ** 39, True, False, "2", (2,), [2], {"2": 2}]:
            if type(value) is not int or not 1 <= value <= MAX_KINDS:
                with self.subTest(value=value):
                    check_raises(self, BadKinds(value), Wish, value, ((1, 1),))

    def test_wrong_kinds_come_before_wrong_collections(self):
        for value in (0, 5, True, False, None, "1", (1,), [1]):
            for collections in ((), None, ((0,),), W):
                check_raises(self, BadKinds(value), Wish, value, collections)

    def test_each_number_of_kinds(self):
        for kinds in range(1, MAX_KINDS + 1):
            for length in range(MAX_KINDS + 2):
                collections = ((1,) * length,)
                if length == kinds:
                    self.assertEqual(Wish(kinds, collections)(Heap((1,) * kinds)), 0)
                else:
                    check_raises(self, BadWish(collections), Wish, kinds, collections)

    def test_wrong_collections(self):
        for value in STRANGE_VALUES + [
                (), ((),), ((0, 0),), ((1, 1), (0, 0)), ((1,),), ((1, 1, 1),), ((1, 1), (1,)),
                ((1, 51),), ((-1, 1),), ((1, True),), ((False, 1),), ((1, 1),) * 5, [(1, 1)],
                ([1, 1],), [[1, 1]], (1, 1), ((1, "1"),), (((1, 1),),), (Heap((1, 1)),),
                Heap((1, 1)), "1,1", {"0": (1, 1)}]:
            with self.subTest(value=value):
                check_raises(self, BadWish(value), Wish, 2, value)

    def test_collections_with_one_part_replaced(self):
        for collections in [W, ((2, 2), (3, 0))]:
            for value in with_one_part_replaced(collections):
                good = type(value) is tuple and 1 <= len(value) <= MAX_COLLECTIONS and all(
                    brute.are_ints(item, 2) and 0 <= min(item) and 0 < max(item) <= MAX_COUNT
                    for item in value)
                if good:
                    Wish(2, value)
                else:
                    check_raises(self, BadWish(value), Wish, 2, value)

    def test_collections_at_the_limits(self):
        collections = ((MAX_COUNT,) * MAX_KINDS,) * MAX_COLLECTIONS
        wish = Wish(MAX_KINDS, collections)
        self.assertEqual(wish(Heap((LIMIT,) * MAX_KINDS)), 0)
        self.assertEqual(wish(Heap((MAX_COUNT,) * MAX_KINDS)), 0)
        self.assertIsNone(wish(Heap((LIMIT, LIMIT, LIMIT, MAX_COUNT - 1))))

    def test_the_first_collection_that_the_heap_contains(self):
        for _, collections in small_cases():
            wish = Wish(len(collections[0]), collections)
            rows = list(itertools.product(range(4), repeat=len(collections[0])))
            for counts in rows:
                self.assertEqual(shape(wish(Heap(counts))),
                                 shape(brute.first_fulfilled(collections, counts)))
            self.assertEqual(shape(wish.asked), shape(len(rows)))

    def test_wrong_heaps(self):
        wish = Wish(2, W)
        others = [(2, 1), [2, 1], ((2, 1),), (Heap((2, 1)),), [Heap((2, 1))], wish, W,
                  Heap((2,)), Heap((2, 1, 0)), Heap((1, 1, 1, 1)), str(Heap((2, 1)))]
        for value in STRANGE_VALUES + others:
            with self.subTest(value=value):
                check_raises(self, BadHeap(value), wish, value)
        self.assertEqual(wish.asked, 0)

    def test_heaps_of_each_number_of_kinds(self):
        for kinds in range(1, 5):
            wish = Wish(kinds, ((1,) * kinds,))
            for other in range(1, 5):
                heap = Heap((1,) * other)
                if other == kinds:
                    self.assertEqual(wish(heap), 0)
                else:
                    check_raises(self, BadHeap(heap), wish, heap)
            self.assertEqual(wish.asked, 1)

    def test_asked_counts_the_calls_that_have_returned(self):
        wish = Wish(2, ((1, 1), (3, 0)))
        self.assertEqual(shape(wish.asked), "0")
        answers = []
        for value, asked in [(Heap((1, 1)), 1), (Heap((0, 0)), 2), (None, 2), (Heap((3, 0)), 3),
                             (Heap((1,)), 3), ((1, 1), 3), (Heap((1, 1)), 4), (True, 4),
                             (Heap((2, 0)), 5)]:
            if asked == wish.asked:
                check_raises(self, BadHeap(value), wish, value)
            else:
                answers.append(wish(value))
            self.assertEqual(shape(wish.asked), shape(asked))
        self.assertEqual(answers, [0, None, 1, 0, None])

    def test_wishes_count_each_for_itself(self):
        one, other = Wish(1, ((1,),)), Wish(1, ((2,),))
        heap = Heap((1,))
        self.assertEqual([one(heap), other(heap), one(heap)], [0, None, 0])
        self.assertEqual([one.asked, other.asked, Wish(1, ((1,),)).asked], [2, 1, 0])

    def test_a_wish_leaves_the_heap_as_it_is(self):
        wish, heap = Wish(2, ((2, 2), (3, 0))), Heap((3, 1))
        self.assertEqual([wish(heap), wish(heap), heap.counts], [1, 1, (3, 1)])


class PureTest(unittest.TestCase):
    def test_wrong_arguments_do_not_change(self):
        for value in [[2, 1], {"a": [1]}, [[1, 1]], [(1, 1)]]:
            kept = shape(value)
            for call in (Heap, Heap((2, 1)).__getitem__, Wish(2, W)):
                with self.assertRaises((ValueError, LookupError)):
                    call(value)
            self.assertIs(value in Heap((2, 1)), False)
            self.assertEqual(shape(value), kept)

    def test_in_bools_and_in_lists(self):
        for counts in GOOD_COUNTS:
            check_raises(self, BadCounts(in_lists(counts)), Heap, in_lists(counts))
            if set(counts) <= {0, 1}:
                check_raises(self, BadCounts(in_bools(counts)), Heap, in_bools(counts))


if __name__ == "__main__":
    unittest.main()
