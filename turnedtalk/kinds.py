"""Words of a known kind: each house writes at once what it would say behind all that may be said."""

from turnedtalk.basics import is_order, is_tuple_of, is_word
from turnedtalk.checks import check_count
from turnedtalk.claims import owned_rows
from turnedtalk.errors import NoKind, NoOrder, TooMany
from turnedtalk.votes import TWO, voted_row
from turnedtalk.wordless import Wordless

LEAST_OF_A_KIND = 2
MOST_OF_A_KIND = 4
MOST_ROWS = 4000


def is_kind(thing):
    """Whether it is a kind."""
    if not is_tuple_of(thing, LEAST_OF_A_KIND, MOST_OF_A_KIND) or not all([is_word(word) for word in thing]):
        return False
    return all([less < more for less, more in zip(thing, thing[1:])])


def many_rows(words, length):
    """How many rows of fewer words than length there are, of so many words."""
    many = 0
    longest = 1
    for _ in range(length):
        many += longest
        longest = longest * words
    return many


def rows_of_kind(kind, length):
    """The rows of fewer words than length, of words of the kind, ascending, in a list."""
    rows = [()]
    at = 0
    while at < len(rows):
        row = rows[at]
        at += 1
        if len(row) + 1 < length:
            rows.extend([row + (word,) for word in kind])
    return sorted(rows)


class AllAhead(Wordless):
    """A manner for two houses that tell words of a kind alone."""

    def __init__(self, order, kind):
        if not is_order(order, TWO):
            raise NoOrder()
        if not is_kind(kind):
            raise NoKind()
        if many_rows(len(kind), len(order)) > MOST_ROWS:
            raise TooMany(MOST_ROWS)
        self.order = order
        self.kind = kind

    def write(self, house, heard, ask, letter):
        """The claim thing of the own word behind each own row of words of the kind."""
        rows = owned_rows(self.order, house, rows_of_kind(self.kind, len(self.order)))
        return tuple([(row, ask(row)) for row in rows])

    def tell(self, house, heard, ask):
        """The row of the own words, and of those of the other house that most letters claim."""
        return voted_row(self.order, house, heard, ask)


def least_known(order, lost, turned):
    """The least number of letters by turns by which houses of a kind get their talk over, to both."""
    if not is_order(order, TWO):
        raise NoOrder()
    check_count(lost)
    check_count(turned)
    owners = len(set(order))
    # house 0 writes first, and what it writes then tells nothing if house 1 alone has words
    late = 0 if 0 in order else 1
    return owners + late + 2 * lost + 4 * turned
