"""Turners, who tell what is heard of a letter."""

from turnedtalk.basics import is_from_to, is_lot, is_tuple_of
from turnedtalk.errors import BadFaults
from turnedtalk.schedules import MOST_LETTERS
from turnedtalk.things import is_thing
from turnedtalk.wordless import Wordless


def is_turned_letter(thing):
    """Whether it is a pair of the number of a letter and a thing."""
    return is_tuple_of(thing, 2, 2) and is_from_to(thing[0], 0, MOST_LETTERS - 1) and is_thing(thing[1])


def check_turned(lost, turned):
    """Raise BadFaults for the first turned letter that can't stand behind those ahead, beside the lost ones."""
    for at, pair in enumerate(turned):
        if not is_turned_letter(pair):
            raise BadFaults(at)
        if at > 0 and pair[0] <= turned[at - 1][0]:
            raise BadFaults(at)
        if pair[0] in lost:
            raise BadFaults(at)


class Faults(Wordless):
    """A turner that loses some letters and turns some into other things, told by their numbers."""

    def __init__(self, lost, turned):
        if not is_lot(lost, MOST_LETTERS):
            raise BadFaults("lost")
        if not isinstance(turned, tuple):
            raise BadFaults("turned")
        check_turned(lost, turned)
        self.lost = lost
        self.turned = turned
        self._into = {number: thing for number, thing in turned}

    def __eq__(self, other):
        return isinstance(other, Faults) and self.lost == other.lost and self.turned == other.turned

    def passes(self, letter):
        """Whether the letter is heard as it was written."""
        return letter not in self.lost and letter not in self._into

    def ear(self, letter, thing):
        """The ear with which the letter is heard, which holds the thing."""
        if letter in self.lost:
            return ()
        return (self._into.get(letter, thing),)


class Hearing(Wordless):
    """A turner that tells what a function tells of the letter and the thing."""

    def __init__(self, hearing):
        self.hearing = hearing

    def ear(self, letter, thing):
        """The ear with which the letter is heard, which holds the thing."""
        return self.hearing(letter, thing)
