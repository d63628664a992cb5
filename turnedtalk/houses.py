"""Houses, which tell a word behind each row, and their talk by turns."""

from turnedtalk.basics import is_order, is_row, is_tuple_of, is_word
from turnedtalk.errors import BadHouse, BadTable, NoOrder, NoRow

MOST_PAIRS = 200


def is_row_and_word(thing):
    """Whether it is a pair of a row and a word."""
    return is_tuple_of(thing, 2, 2) and is_row(thing[0]) and is_word(thing[1])


def check_pairs(pairs):
    """Raise BadTable for the first of these that can't stand in a Table."""
    for at, pair in enumerate(pairs):
        if not is_row_and_word(pair):
            raise BadTable(at)
        if at > 0 and pair[0] <= pairs[at - 1][0]:
            raise BadTable(at)


class Table:
    """A house that tells the word beside a row, and another word behind all other rows."""

    def __init__(self, pairs, other):
        if not is_tuple_of(pairs, 0, MOST_PAIRS):
            raise BadTable("pairs")
        check_pairs(pairs)
        if not is_word(other):
            raise BadTable("other")
        self.pairs = pairs
        self.other = other
        self._beside = {row: word for row, word in pairs}

    def __eq__(self, other):
        return isinstance(other, Table) and self.pairs == other.pairs and self.other == other.other

    def word(self, row):
        """The word that it tells behind the row."""
        if not is_row(row):
            raise NoRow()
        return self._beside.get(row, self.other)


class Voice:
    """A house that tells what a function tells of the row."""

    def __init__(self, telling):
        self.telling = telling

    def word(self, row):
        """The word that it tells behind the row."""
        if not is_row(row):
            raise NoRow()
        return self.telling(row)


def asked(house, row):
    """The word that the house tells behind the row."""
    if not is_row(row):
        raise NoRow()
    word = house.word(row)
    if not is_word(word):
        raise BadHouse(row)
    return word


def talk(houses, order):
    """The row of the words that the houses tell in this order."""
    if not is_order(order, len(houses)):
        raise NoOrder()
    row = ()
    for owner in order:
        row = row + (asked(houses[owner], row),)
    return row


def is_talk(houses, order, thing):
    """Whether the thing is the talk of the houses in this order."""
    row = talk(houses, order)
    return is_row(thing) and thing == row
