"""Texts: stocks and collections as words, such as 2,1 1,3 for 1,1."""

from darkdrawers.errors import BadText
from darkdrawers.stocks import is_stock
from darkdrawers.wishes import are_collections

MOST_DIGITS = 7


def cabinet_text(stock, collections):
    """The text of a cabinet with this stock and these collections."""
    drawers = [numbers_text(drawer) for drawer in stock]
    wished = [numbers_text(collection) for collection in collections]
    return " ".join([*drawers, "for", *wished])


def numbers_text(numbers):
    """The text of a drawer or a collection."""
    return ",".join([str(number) for number in numbers])


def parse_cabinet(value):
    """The tuple (stock, collections) of which the value is the text."""
    if not isinstance(value, str):
        raise BadText(None)
    words = value.split(" ")
    end = words.index("for") if "for" in words else len(words)
    stock = parse_drawers(words[:end])
    if end == 0 or end == len(words):
        raise BadText(end)
    return (stock, parse_collections(words, end + 1, len(stock[0])))


def parse_drawers(words):
    """The drawers of which these words are the texts."""
    stock = ()
    for index, word in enumerate(words):
        stock = (*stock, numbers_in(word))
        if not is_stock(stock):
            raise BadText(index)
    return stock


def parse_collections(words, start, kinds):
    """The collections for so many kinds of which the words from this index on are the texts."""
    collections = ()
    for index, word in enumerate(words[start:], start=start):
        collections = (*collections, numbers_in(word))
        if not are_collections(kinds, collections):
            raise BadText(index)
    if not collections:
        raise BadText(len(words))
    return collections


def numbers_in(word):
    """The numbers with "," between two of which the word is the text, or None."""
    numbers = [number_in(part) for part in word.split(",")]
    return None if None in numbers else tuple(numbers)


def number_in(word):
    """The number of at most MOST_DIGITS digits of which the word is the text, or None."""
    # Digits of other scripts are digits for Python, too.
    if not (word.isascii() and word.isdigit()) or len(word) > MOST_DIGITS:
        return None
    number = int(word)
    # Texts with leading zeros are those that the number does not have itself.
    return number if str(number) == word else None
