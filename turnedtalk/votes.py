"""Votes: two houses write what they would say behind all that may have been said, and count."""

from turnedtalk.basics import is_house, is_order
from turnedtalk.claims import considered_rows, counted_claims, owned_rows
from turnedtalk.errors import NoHouse, NoOrder
from turnedtalk.wordless import Wordless

TWO = 2


def tree_rows(order, house, heard, ask):
    """The rows of a house's tree, ascending, in a list."""
    claims = counted_claims(heard)
    return sorted(considered_rows(order, house, ask, lambda owner, row: list(claims.get(row, {}))))


def tree(order, house, heard, ask):
    """The tree of a house."""
    if not is_order(order, TWO):
        raise NoOrder()
    if not is_house(house, TWO):
        raise NoHouse()
    return tuple(tree_rows(order, house, heard, ask))


def most_claimed(counts):
    """The word with the greatest count, of several the least one; None if there is none."""
    return min(counts, key=lambda word: (-counts[word], word), default=None)


def voted_row(order, house, heard, ask):
    """The row of the own words, and of those of the other house that most letters claim."""
    claims = counted_claims(heard)
    row = ()
    for owner in order:
        word = ask(row) if owner == house else most_claimed(claims.get(row, {}))
        if word is None:
            return row
        row = row + (word,)
    return row


class Votes(Wordless):
    """A manner for two houses."""

    def __init__(self, order):
        if not is_order(order, TWO):
            raise NoOrder()
        self.order = order

    def write(self, house, heard, ask, letter):
        """The claim thing of the own word behind each own row of the tree."""
        rows = owned_rows(self.order, house, tree_rows(self.order, house, heard, ask))
        return tuple([(row, ask(row)) for row in rows])

    def tell(self, house, heard, ask):
        """The row of the own words, and of those of the other house that most letters claim."""
        return voted_row(self.order, house, heard, ask)
