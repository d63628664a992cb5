"""A run of a manner, letter by letter [3.4]."""

from turnedtalk.basics import is_row
from turnedtalk.errors import BadEar, BadLetter, NoRow
from turnedtalk.faults import Faults
from turnedtalk.followings import Following
from turnedtalk.houses import asked
from turnedtalk.things import is_ear, is_thing
from turnedtalk.wholes import Whole
from turnedtalk.wordless import Wordless


class Asking(Wordless):
    """A house that is asked, with the rows that it was asked, in the order in which they first were."""

    def __init__(self, house):
        self.house = house
        self.rows = []
        self._words = {}

    def ask(self, row):
        """The word of the house behind the row."""
        if not is_row(row):
            raise NoRow()
        if row not in self._words:
            self.rows.append(row)
            self._words[row] = None
        # a row whose word is none stays so, and is asked again: a manner may go on behind BadHouse
        if self._words[row] is None:
            self._words[row] = asked(self.house, row)
        return self._words[row]


def is_whole(manner):
    """Whether it is a Whole; of a class of somebody else's below Whole nobody knows what it writes."""
    return isinstance(manner, Whole) and manner.__class__.__name__ == "Whole"


def is_faults(turner):
    """Whether it is Faults, and likewise of no class below."""
    return isinstance(turner, Faults) and turner.__class__.__name__ == "Faults"


class Run(Wordless):
    """What was written, heard and asked so far; who uses it tells what is done next."""

    def __init__(self, schedule, houses, manner):
        self.schedule = schedule
        self.askings = [Asking(house) for house in houses]
        self.sent = []
        self.ears = []
        # the letters that surely were heard as they were written
        self.passed = []
        self._heard = [[] for _ in houses]
        self._following = Following(manner) if is_whole(manner) and manner.schedule == schedule else None
        self._manner = manner if self._following is None else self._following

    def write(self, letter):
        """Have the next letter, of this number, written."""
        house = self.schedule.letters[letter][0]
        asking = self.askings[house]
        thing = self._manner.write(house, tuple(self._heard[house]), asking.ask, letter)
        if not is_thing(thing):
            raise BadLetter(letter)
        self.sent.append(thing)

    def hear_by(self, turner, letter):
        """Have the next letter that was written, of this number, heard as the turner tells."""
        as_written = is_faults(turner) and turner.passes(letter)
        self.hear(letter, turner.ear(letter, self.sent[letter]), as_written)

    def hear(self, letter, ear, as_written):
        """Have the next letter, of this number, heard so, which it is surely as it was written, or perhaps not."""
        if not is_ear(ear):
            raise BadEar(letter)
        self.ears.append(ear)
        if as_written:
            self.passed.append(letter)
        self._heard[self.schedule.letters[letter][1]].append((letter, ear))
        if self._following is not None:
            self._following.hear(letter, ear, as_written)

    def heard(self, house):
        """What the house heard so far."""
        return tuple(self._heard[house])

    def tell(self, house):
        """What the house tells of all that it heard."""
        asking = self.askings[house]
        return self._manner.tell(house, self.heard(house), asking.ask)
