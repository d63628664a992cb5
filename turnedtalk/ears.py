"""Talks without end: what one of two houses knows, letter by letter."""

from turnedtalk.basics import is_from_to, is_house, is_number, is_tuple_of
from turnedtalk.checks import check_count
from turnedtalk.claims import is_claim_thing
from turnedtalk.errors import NoEar, NoFaults, NoHouse, NoNumber, NotNow
from turnedtalk.things import is_ear
from turnedtalk.votes import TWO
from turnedtalk.wordless import Wordless

MOST_WINDOW = 200
MOST_SURE = 400


def check_ear(number, window, lost, turned):
    """Raise the error that an Ear of these raises, if there is one."""
    if not is_house(number, TWO):
        raise NoHouse()
    if not is_from_to(window, 1, MOST_WINDOW):
        raise NoNumber()
    check_count(lost)
    check_count(turned)


def begins_with(row, beginning):
    """Whether the row begins with the other one."""
    return row[:len(beginning)] == beginning


def is_based(thing, most):
    """Whether it is a pair of a number, of at most so many, and a claim thing."""
    return is_tuple_of(thing, 2, 2) and is_number(thing[0]) and thing[0] <= most and is_claim_thing(thing[1])


class Ear(Wordless):
    """What one of two houses knows of a talk without end.

    Its claims are the words that were claimed behind each row that begins
    with the sure one, each with the numbers of the letters that did; what
    was claimed elsewhere plays no part any more. Likewise for its own
    words: how many letters it wrote with them.
    """

    def __init__(self, number, house, window, lost, turned):
        check_ear(number, window, lost, turned)
        self._number = number
        self._house = house
        self._window = window
        self._lost = lost
        self._turned = turned
        self._beat = 0
        self._base = 0
        self._claims = {}
        self._written = {}
        self._sure = self._looked((), {}, 0)

    def letter(self):
        """The thing that it writes now."""
        self._check_turn(self._number)
        base = self._next_base()
        rows = self._own_rows(base)
        thing = (base, tuple([(row[base:], self._house.word(row)) for row in rows]))
        # its house may raise an error, so nothing is changed until all is asked
        self._base = base
        for row in rows:
            self._written[row] = self._written.get(row, 0) + 1
        # what it writes itself makes nothing sure
        self._beat += 1
        return thing

    def hear(self, ear):
        """Hear the next letter of the other house."""
        if not is_ear(ear):
            raise NoEar()
        self._check_turn(1 - self._number)
        claims = self._claims_with(ear)
        sure = self._looked(self._sure, claims, self._beat + 1)
        self._beat += 1
        self._sure = sure
        self._claims = {row: words for row, words in claims.items() if begins_with(row, sure)}
        self._written = {row: many for row, many in self._written.items() if self._may_be_written(row)}

    def sure(self):
        """The row of sure words."""
        return self._sure

    def kept(self):
        """How many rows its tree has."""
        return len(self._tree())

    def beat(self):
        """How many letters have gone."""
        return self._beat

    def copy(self):
        """An Ear that knows the same, and goes on by itself."""
        ear = Ear(self._number, self._house, self._window, self._lost, self._turned)
        ear._beat = self._beat
        ear._base = self._base
        ear._claims = self._claims
        ear._written = {row: many for row, many in self._written.items()}
        ear._sure = self._sure
        return ear

    def _check_turn(self, writer):
        """Raise NotNow unless the next letter comes from this house, and not all words are sure."""
        if self._beat % TWO != writer or len(self._sure) == MOST_SURE:
            raise NotNow()

    def _is_own(self, row):
        return len(row) < MOST_SURE and len(row) % TWO == self._number

    def _looked(self, sure, claims, beat):
        """What this row of sure words grows to, with these claims, when so many letters have gone."""
        while len(sure) < MOST_SURE:
            words = [self._house.word(sure)] if self._is_own(sure) else self._claimed(claims.get(sure, {}), beat)
            if not words:
                return sure
            sure = sure + (min(words),)
        return sure

    def _claimed(self, words, beat):
        """Those of the words that letters enough of the last window ones claim."""
        return [word for word in words if len([at for at in words[word] if at >= beat - self._window]) > self._turned]

    def _claims_with(self, ear):
        """Its claims, and those of the ear with which the next letter is heard."""
        claims = {row: words for row, words in self._claims.items()}
        if ear == () or not is_based(ear[0], len(self._sure)):
            return claims
        base, pairs = ear[0]
        for behind, word in pairs:
            row = self._sure[:base] + behind
            if len(row) < MOST_SURE and begins_with(row, self._sure):
                words = claims.get(row, {})
                claims[row] = {**words, word: (*words.get(word, ()), self._beat)}
        return claims

    def _tree(self):
        """The rows of its tree, in a list."""
        rows = [self._sure]
        at = 0
        while at < len(rows):
            row = rows[at]
            at += 1
            if len(row) < MOST_SURE:
                words = [self._house.word(row)] if self._is_own(row) else list(self._claims.get(row, {}))
                rows.extend([row + (word,) for word in words])
        return rows

    def _next_base(self):
        """How many of the first sure words have been written often enough."""
        often = 2 * self._turned + self._lost + 1
        base = self._base
        while base < len(self._sure):
            if self._is_own(self._sure[:base]) and self._written.get(self._sure[:base], 0) < often:
                return base
            base += 1
        return base

    def _own_rows(self, base):
        """The rows of at least so many words behind which it writes its own word, ascending."""
        beginnings = [self._sure[:many] for many in range(base, len(self._sure))]
        return sorted([row for row in [*beginnings, *self._tree()] if self._is_own(row)])

    def _may_be_written(self, row):
        """Whether it may still write its word behind the row: one with which the sure one begins, or the other way."""
        return len(row) >= self._base and (begins_with(row, self._sure) or begins_with(self._sure, row))


def least_window(lost, turned):
    """The least window with which talks without end get over."""
    check_count(lost)
    check_count(turned)
    return 2 * lost + 4 * turned + 1


def blur(lost, turned):
    """What becomes of letters on end, by turns, in two runs in which house 1 hears the same."""
    check_count(lost)
    check_count(turned)
    if lost == 0 and turned == 0:
        raise NoFaults()
    one = ["lost"] * lost + ["turned"] * turned + ["true"] * turned
    other = ["lost"] * lost + ["true"] * turned + ["turned"] * turned
    return with_true_ones(one), with_true_ones(other)


def with_true_ones(words):
    """The words, and behind each one that the letter of house 1 is true."""
    return tuple([word for first in words for word in (first, "true")])
