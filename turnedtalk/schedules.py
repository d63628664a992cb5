"""Schedules: which house writes to which one, at which beats."""

from turnedtalk.basics import is_from_to, is_house, is_lot, is_tuple_of
from turnedtalk.errors import BadSchedule, NoLetters, NoNet, NoNumber, TooMany
from turnedtalk.wordless import Wordless

LEAST_HOUSES = 2
MOST_HOUSES = 8
MOST_LETTERS = 60
MOST_BEATS = 60
BEATS_END = 1000


def is_letter(thing, many):
    """Whether it is a triple of two unlike ones of so many houses and a beat."""
    return (
        is_tuple_of(thing, 3, 3)
        and is_house(thing[0], many)
        and is_house(thing[1], many)
        and thing[0] != thing[1]
        and is_from_to(thing[2], 0, BEATS_END - 1)
    )


def check_letters(many, letters):
    """Raise BadSchedule for the first letter that can't stand behind those ahead."""
    for at, letter in enumerate(letters):
        if not is_letter(letter, many):
            raise BadSchedule(at)
        if at > 0 and letter[2] < letters[at - 1][2]:
            raise BadSchedule(at)
        if letter in letters[:at]:
            raise BadSchedule(at)


class Schedule(Wordless):
    """Letters between so many houses, in the order in which they are written."""

    def __init__(self, many, letters):
        if not is_from_to(many, LEAST_HOUSES, MOST_HOUSES):
            raise BadSchedule("many")
        if not is_tuple_of(letters, 0, MOST_LETTERS):
            raise BadSchedule("letters")
        check_letters(many, letters)
        self.many = many
        self.letters = letters

    def __eq__(self, other):
        return isinstance(other, Schedule) and self.many == other.many and self.letters == other.letters


def letters_to(schedule, house):
    """The numbers of the letters to a house, ascending, as a list."""
    return [number for number, letter in enumerate(schedule.letters) if letter[1] == house]


def rounds(schedule):
    """For each beat at which there are letters the list of their numbers, as a list."""
    found = []
    for number, letter in enumerate(schedule.letters):
        if number == 0 or letter[2] > schedule.letters[number - 1][2]:
            found.append([])
        found[-1].append(number)
    return found


def turns_line(n):
    """Two houses, of which one writes n letters by turns, house 0 first."""
    if not is_from_to(n, 0, MOST_LETTERS):
        raise NoNumber()
    return Schedule(2, tuple([(beat % 2, 1 - beat % 2, beat) for beat in range(n)]))


def both_line(n):
    """Two houses, of which both write a letter at each of n beats."""
    if not is_from_to(n, 0, MOST_LETTERS // 2):
        raise NoNumber()
    return net_schedule(2, ((0, 1),), n)


def is_tie(thing, many):
    """Whether it is a pair of two of so many houses, the lesser one first."""
    return is_tuple_of(thing, 2, 2) and is_house(thing[0], many) and is_house(thing[1], many) and thing[0] < thing[1]


def is_net(many, ties):
    """Whether so many houses can have these ties."""
    if not is_from_to(many, LEAST_HOUSES, MOST_HOUSES) or not isinstance(ties, tuple):
        return False
    for at, tie in enumerate(ties):
        if not is_tie(tie, many):
            return False
        if at > 0 and tie <= ties[at - 1]:
            return False
    return True


def net_schedule(many, ties, beats):
    """At each beat a letter over each tie, and one back."""
    if not is_net(many, ties):
        raise NoNet()
    if not is_from_to(beats, 0, MOST_BEATS):
        raise NoNumber()
    if 2 * len(ties) * beats > MOST_LETTERS:
        raise TooMany(MOST_LETTERS)
    letters = []
    for beat in range(beats):
        for one, other in ties:
            letters.append((one, other, beat))
            letters.append((other, one, beat))
    return Schedule(many, tuple(letters))


def without(schedule, letters):
    """The Schedule without a lot of its letters."""
    if not is_lot(letters, len(schedule.letters)):
        raise NoLetters()
    kept = [letter for at, letter in enumerate(schedule.letters) if at not in letters]
    return Schedule(schedule.many, tuple(kept))
