import itertools
import re
import unittest

from darkdrawers.bounds import MAX_COLLECTIONS, MAX_COUNT, MAX_DRAWERS, MAX_KINDS
from darkdrawers.errors import BadText
from darkdrawers.texts import cabinet_text, parse_cabinet
from tests.samples import (
    EDGE_CASES, FULL, STRANGE_VALUES, D, Dice, W, check_raises, large_cases, shape, small_cases,
    unchanged)

# Texts with the stock and the collections that they have.
GOOD_TEXTS = [
    ("2,1 1,3 for 1,1", (D, W)),
    ("2,1 1,3 for 1,1 3,0", (D, ((1, 1), (3, 0)))),
    ("7 for 3", (((7,),), ((3,),))),
    ("0 for 1", (((0,),), ((1,),))),
    ("50 for 50", (((50,),), ((50,),))),
    ("0,0,0,0 for 0,0,0,1", (((0, 0, 0, 0),), ((0, 0, 0, 1),))),
    ("1 2 3 4 for 4 3 2 1", (((1,), (2,), (3,), (4,)), ((4,), (3,), (2,), (1,)))),
    ("1,2,3 4,5,6 for 10,20,30 0,9,0",
     (((1, 2, 3), (4, 5, 6)), ((10, 20, 30), (0, 9, 0)))),
]

# Texts that are not the text of a cabinet, with the index of the first wrong word.
WRONG_TEXTS = [
    ("", 0), (" ", 0), ("  ", 0), ("\n", 0), ("for", 0), ("for ", 0), (" for", 0), ("for for", 0),
    ("for 1", 0), ("for 0", 0), ("for x", 0), ("x for", 0), ("For 1", 0), ("FOR", 0),
    ("1", 1), ("1 2", 2), ("1 2 3 4", 4), ("1 2 3 4 5", 4), ("1 2 3 4 5 6", 4), ("1 2 3 4 x", 4),
    ("1 2 3 4 5 for 1", 4), ("1 2 3 4 5 for", 4), ("1 2 3 x 5 for 1", 3), ("1 2 3 4 5,5 for 1", 4),
    ("1 2 x", 2), ("1 2 x y", 2), ("x", 0), ("x y for z", 0), ("1 y for z", 1),
    ("1 for", 2), ("1 2 for", 3), ("1 2 3 4 for", 5), ("1 for ", 2), ("1 for  1", 2),
    ("1 2 3 4 for ", 5), ("1 for for", 2), ("1 for for 1", 2), ("1 for 1 for", 3),
    ("1 for 1 for 1", 3), ("1 for 1 1 1 1 for", 6), ("1 for 1 1 1 1 1", 6), ("1 for 1 1 1 1 x", 6),
    ("1 for 1 1 1 1 1 1", 6), ("1 for 1 1 0 1 1", 4), ("1 2 3 4 for 1 1 1 1 1", 9),
    ("2,1 1,3 for 1,1 0,0", 4), ("2,1 1,3 for 0,0", 3), ("2,1 1,3 for 0,0 1,1", 3),
    ("1 for 0", 2), ("0 for 0", 2), ("0,0,0,0 for 0,0,0,0", 2),
    (" 1 for 1", 0), ("1  for 1", 1), ("1 for 1 ", 3), ("1 for  1", 2), ("1 for 1  1", 3),
    ("1  2 for 1", 1), ("1   for 1", 1), ("1 2  for 1", 2), ("  1 for 1", 0), ("1 for 1  ", 3),
    ("01 for 1", 0), ("00 for 1", 0), ("1 for 01", 2), ("1 for 00", 2), ("1 for 1 01", 3),
    ("1,02 for 1,1", 0), ("1,2 0,00 for 1,1", 1), ("007 for 1", 0),
    ("+1 for 1", 0), ("-1 for 1", 0), ("-0 for 1", 0), ("1 for +1", 2), ("1 for -1", 2),
    ("1 for 1 -0", 3), ("1 +2 for 1", 1), ("1,-1 for 1,1", 0),
    ("51 for 1", 0), ("50 51 for 1", 1), ("1 for 51", 2), ("1 for 50 51", 3), ("1,51 for 1,1", 0),
    ("100 for 1", 0), ("1 for 1000000", 2), ("10000000 for 1", 0), ("1 for 10000000", 2),
    ("9" * 1990 + " for 1", 0), ("1 for " + "1" * 1990, 2), ("0" * 1990 + " for 1", 0),
    ("1" * 10000 + " for 1", 0), ("1 for " + "0" * 9999 + "1", 2),
    ("1,1 1 for 1,1", 1), ("1 1,1 for 1", 1), ("1,1 1,1,1 for 1,1", 1), ("1 for 1,1", 2),
    ("1,1 for 1", 2), ("1,1 for 1,1 1", 3), ("1,1 for 1,1,1", 2), ("1,1,1 for 1,1 1,1,1", 2),
    ("1,1,1,1,1 for 1,1,1,1,1", 0), ("1,1,1,1 for 1,1,1,1,1", 2), ("1,1,1,1 1,1,1,1,1 for 1", 1),
    (",1 for 1", 0), ("1, for 1", 0), ("1,,1 for 1,1", 0), (", for 1", 0), ("1 for ,", 2),
    ("1 for 1,", 2), ("1 for ,1", 2), ("1,1 , for 1,1", 1), ("1;1 for 1;1", 0), ("1.0 for 1", 0),
    ("1, 1 for 1,1", 0), ("1 ,1 for 1", 1), ("1_0 for 1", 0), ("0x1 for 1", 0), ("1e1 for 1", 0),
    ("1\n for 1", 0), ("1 for 1\n", 2), ("\n1 for 1", 0), ("1\nfor 1", 0), ("1 for\n1", 1),
    ("1 \nfor 1", 1), ("1 2 for 1\n2", 3), ("1\n2 for 1", 0), ("1,\n1 for 1,1", 0),
    ("1 FOR 1", 1), ("1 For 1", 1), ("1 fo 1", 1), ("1 forr 1", 1), ("1 for, 1", 1),
    ("1for 1", 0), ("1 for1", 1), ("1 'for' 1", 1), ("for,1 for 1", 0), ("None", 0),
    ("((2, 1), (1, 3)) for 1", 0), ("one for one", 0), ("(1,) for (1,)", 0), ("[1] for [1]", 0),
    ("True for 1", 0), ("1 for True", 2),
]

# Words that a text may get by mistake.
ODD_WORDS = ["", "for", "0", "1", "50", "51", "01", "-1", "+1", "1,1", "0,0", "50,50", "51,0",
             "1,01", "1,", ",1", "1,1,1", "0,0,0", "1,1,1,1,1", "a", "FOR", "1\n", "\n", "fo",
             "1.0", "1,,1", "9" * 50, "0" * 50, "x,y"]


def numbers_of(word):
    """The numbers of a word, or None, by a pattern."""
    if not re.fullmatch(r"(0|[1-9][0-9]?)(,(0|[1-9][0-9]?))*", word):
        return None
    numbers = tuple(int(part) for part in word.split(","))
    return numbers if max(numbers) <= 50 else None


def expected_parse(text):
    """What parse_cabinet returns, or the index with which it raises BadText."""
    words = re.split(" ", text)
    drawers = list(itertools.takewhile(lambda word: word != "for", words))
    first = numbers_of(drawers[0]) if drawers else None
    for index, word in enumerate(drawers):
        numbers = numbers_of(word)
        if index >= 4 or numbers is None or len(numbers) > 4 or len(numbers) != len(first):
            return index
    if not drawers:
        return 0
    if len(drawers) == len(words):
        return len(words)
    wished = words[len(drawers) + 1:]
    for index, word in enumerate(wished):
        numbers = numbers_of(word)
        if index >= 4 or not numbers or len(numbers) != len(first) or not any(numbers):
            return len(drawers) + 1 + index
    if not wished:
        return len(words)
    return tuple(map(numbers_of, drawers)), tuple(map(numbers_of, wished))


def changed_texts(text):
    """Texts in which one word is replaced, left out, doubled, added or not divided."""
    words = text.split(" ")
    for at in range(len(words) + 1):
        for word in ODD_WORDS:
            yield " ".join(words[:at] + [word] + words[at:])
    for at, old in enumerate(words):
        for word in ODD_WORDS + ["0" + old, "-" + old, "+" + old, old + "0", old + ",", "," + old,
                                 old + ",1", old[1:], old[:-1], old + "\n", old.upper(), old * 2]:
            yield " ".join(words[:at] + [word] + words[at + 1:])
        yield " ".join(words[:at] + words[at + 1:])
        yield " ".join(words[:at] + [old] + words[at:])
        yield " ".join(words[:at])
        yield " ".join(words[at:])
    for at in range(len(words) - 1):
        for between in ["", "  ", "   ", ",", "\n", "\t", " \n"]:
            yield " ".join(words[:at + 1]) + between + " ".join(words[at + 1:])
        yield " ".join(words[:at] + [words[at + 1], words[at]] + words[at + 2:])
    yield from (" " + text, text + " ", " " + text + " ", "\n" + text, text + "\n", text + " for")


class CabinetTextTest(unittest.TestCase):
    def test_example(self):
        self.assertEqual(cabinet_text(D, ((1, 1), (3, 0))), "2,1 1,3 for 1,1 3,0")

    def test_texts(self):
        for text, (stock, collections) in GOOD_TEXTS:
            with self.subTest(text=text):
                self.assertEqual(shape(cabinet_text(stock, collections)), shape(text))

    def test_at_the_limits(self):
        full = ",".join(["50"] * 4)
        self.assertEqual(cabinet_text(FULL, FULL), " ".join([full] * 4 + ["for"] + [full] * 4))

    def test_arguments_do_not_change_and_answers_stay_the_same(self):
        for stock, collections in EDGE_CASES:
            unchanged(self, cabinet_text, stock, collections)


class ParseCabinetTest(unittest.TestCase):
    def check(self, text):
        expected = expected_parse(text)
        if type(expected) is int:
            check_raises(self, BadText(expected), parse_cabinet, text)
        else:
            self.assertEqual(shape(parse_cabinet(text)), shape(expected))

    def test_example(self):
        check_raises(self, BadText(4), parse_cabinet, "2,1 1,3 for 1,1 0,0")

    def test_texts_of_cabinets(self):
        for text, state in GOOD_TEXTS:
            with self.subTest(text=text):
                self.assertEqual(shape(parse_cabinet(text)), shape(state))

    def test_the_text_of_a_cabinet_read_again(self):
        for stock, collections in small_cases() + large_cases():
            self.assertEqual(shape(parse_cabinet(cabinet_text(stock, collections))),
                             shape((stock, collections)))

    def test_each_number_of_drawers_kinds_and_collections(self):
        for drawers, kinds, many in itertools.product(range(1, 5), range(1, 5), range(1, 5)):
            dice = Dice(drawers + 10 * kinds + 100 * many)
            stock = dice.stock(drawers, kinds, MAX_COUNT)
            collections = dice.collections(many, kinds, MAX_COUNT)
            self.assertEqual(parse_cabinet(cabinet_text(stock, collections)), (stock, collections))

    def test_each_number(self):
        for number in range(MAX_COUNT + 1):
            self.assertEqual(parse_cabinet(f"{number} 3,4 for 1,1".replace(" ", ",1 ", 1)),
                             (((number, 1), (3, 4)), ((1, 1),)))
            self.assertEqual(parse_cabinet(f"1,1 for 0,1 {number},1"),
                             (((1, 1),), ((0, 1), (number, 1))))
        for number in list(range(MAX_COUNT + 1, 120)) + [10 ** 6, 10 ** 7, 10 ** 39]:
            check_raises(self, BadText(1), parse_cabinet, f"1,1 1,{number} for 1,1")
            check_raises(self, BadText(3), parse_cabinet, f"1,1 for 1,1 {number},1")

    def test_wrong_texts(self):
        for text, index in WRONG_TEXTS:
            with self.subTest(text=text[:50]):
                check_raises(self, BadText(index), parse_cabinet, text)

    def test_more_drawers_and_collections_than_there_may_be(self):
        for many in range(MAX_DRAWERS + 1, 12):
            check_raises(self, BadText(MAX_DRAWERS), parse_cabinet, "1 " * many + "for 1")
            check_raises(self, BadText(MAX_DRAWERS), parse_cabinet, " ".join(["1"] * many))
            check_raises(self, BadText(2 + MAX_COLLECTIONS), parse_cabinet, "1 for" + " 1" * many)
            check_raises(self, BadText(5 + MAX_COLLECTIONS), parse_cabinet,
                         "1 1 1 1 for" + " 1" * many)

    def test_more_kinds_than_there_may_be(self):
        for kinds in range(MAX_KINDS + 1, 9):
            word = ",".join(["1"] * kinds)
            check_raises(self, BadText(0), parse_cabinet, f"{word} for {word}")
            check_raises(self, BadText(1), parse_cabinet, f"1,1,1,1 {word} for 1,1,1,1")

    def test_digits_of_other_scripts(self):
        for digit in ["\u0661", "\u00b2", "\uff11", "\u0967"]:
            check_raises(self, BadText(0), parse_cabinet, f"{digit} for 1")
            check_raises(self, BadText(2), parse_cabinet, f"1 for {digit}")

    def test_other_blanks_do_not_divide(self):
        for blank in ["\t", "\n", "\r", "\u00a0"]:
            check_raises(self, BadText(0), parse_cabinet, f"1{blank}for{blank}1")
            check_raises(self, BadText(0), parse_cabinet, f"1{blank}1 for 1")
            check_raises(self, BadText(2), parse_cabinet, f"1 for 1{blank}1")

    def test_changed_texts(self):
        found = set()
        for text, _ in GOOD_TEXTS:
            for other in changed_texts(text):
                found.add(shape(expected_parse(other)))
                with self.subTest(text=other):
                    self.check(other)
        self.assertTrue({"0", "1", "2", "3", "4", "5", "6", "7", "8", "9"} <= found)

    def test_texts_that_are_changed_twice(self):
        dice = Dice(43)
        for text, _ in GOOD_TEXTS:
            once = list(changed_texts(text))
            for _ in range(60):
                twice = list(changed_texts(once[dice.throw(len(once) - 1)]))
                for other in twice[dice.throw(6)::7]:
                    self.check(other)

    def test_thrown_words(self):
        dice = Dice(47)
        words = ["for", "for", "1", "0", "50", "51", "2,1", "0,0", "", "x", "1,0"]
        for _ in range(4000):
            self.check(" ".join(words[dice.throw(10)] for _ in range(dice.throw(9))))

    def test_all_texts_of_few_words(self):
        for many in range(5):
            for words in itertools.product(["for", "1", "0", "", "1,1", "x"], repeat=many):
                self.check(" ".join(words))

    def test_values_that_are_not_texts(self):
        others = [D, W, (D, W), [D, W], ["2,1", "1,3", "for", "1,1"], ("7 for 3",), ["7 for 3"],
                  {"7 for 3": 1}, b"7 for 3", 7, (), [], {}]
        for value in STRANGE_VALUES + others:
            if type(value) is not str:
                with self.subTest(value=value):
                    check_raises(self, BadText(None), parse_cabinet, value)

    def test_texts_that_are_strange(self):
        for value in STRANGE_VALUES:
            if type(value) is str:
                self.check(value)

    def test_arguments_do_not_change_and_answers_stay_the_same(self):
        for _ in range(2):
            for text, state in GOOD_TEXTS:
                unchanged(self, parse_cabinet, text)
                check_raises(self, BadText(0), parse_cabinet, "0" + text)
                self.assertEqual(shape(parse_cabinet(text)), shape(state))


if __name__ == "__main__":
    unittest.main()
