"""Runs of a manner, and what is known of them behind."""

from turnedtalk.basics import is_number
from turnedtalk.checks import check_house
from turnedtalk.errors import NoHouses, NoNumber
from turnedtalk.runs import Run
from turnedtalk.schedules import letters_to, rounds
from turnedtalk.things import alike
from turnedtalk.wordless import Wordless, may_be_house


class Record(Wordless):
    """What was written, heard, told and asked in a run."""

    def __init__(self, sent, ears, told, asks):
        self.sent = sent
        self.ears = ears
        self.told = told
        self.asks = asks
        # letters of which a run knows that they were heard as they were written; so they need no look
        self._passed = ()

    def __eq__(self, other):
        return (
            isinstance(other, Record)
            and self.sent == other.sent
            and self.ears == other.ears
            and self.told == other.told
            and self.asks == other.asks
        )


class Hand(Wordless):
    """A manner made of two functions."""

    def __init__(self, writing, telling):
        self.writing = writing
        self.telling = telling

    def write(self, house, heard, ask, letter):
        """The thing that the house writes in the letter."""
        return self.writing(house, heard, ask, letter)

    def tell(self, house, heard, ask):
        """What the house tells in the end."""
        return self.telling(house, heard, ask)


def are_houses(thing, many):
    """Whether it is a tuple of so many houses."""
    return isinstance(thing, tuple) and len(thing) == many and all([may_be_house(house) for house in thing])


def carried(schedule, houses, manner, turner):
    """The Record of a run."""
    if not are_houses(houses, schedule.many):
        raise NoHouses()
    run = Run(schedule, houses, manner)
    for letters in rounds(schedule):
        for letter in letters:
            run.write(letter)
        for letter in letters:
            run.hear_by(turner, letter)
    told = tuple([run.tell(house) for house in range(schedule.many)])
    asks = tuple([tuple(asking.rows) for asking in run.askings])
    record = Record(tuple(run.sent), tuple(run.ears), told, asks)
    record._passed = tuple(run.passed)
    return record


def heard(schedule, record, house, beat):
    """What the house heard ahead of the beat."""
    check_house(schedule, house)
    if not is_number(beat):
        raise NoNumber()
    letters = [letter for letter in letters_to(schedule, house) if schedule.letters[letter][2] < beat]
    return tuple([(letter, record.ears[letter]) for letter in letters])


def lost(record):
    """The lot of the letters that were lost."""
    return tuple([letter for letter, ear in enumerate(record.ears) if ear == ()])


def is_turned(record, letter):
    """Whether the letter was heard, but with another thing than the one written."""
    ear = record.ears[letter]
    return ear != () and letter not in record._passed and not alike(ear[0], record.sent[letter])


def turned(record):
    """The lot of the letters that were heard, but with another thing than the one written."""
    return tuple([letter for letter in range(len(record.ears)) if is_turned(record, letter)])
