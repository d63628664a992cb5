"""A run of a manner, letter by letter [3.4]."""

from turnedtalk.basics import is_row
from turnedtalk.errors import BadEar, BadLetter, NoRow
from turnedtalk.houses import asked
from turnedtalk.things import is_ear, is_thing


class Asking:
    """A house that is asked, with the rows that it was asked, in the order in which they first were."""

    def __init__(self, house):
        self.house = house
        self.rows = []
        self._words = {}

    def ask(self, row):
        """The word of the house behind the row."""
        if not is_row(row):
            raise NoRow()
        if row not in self._words:
            self.rows.append(row)
            self._words[row] = None
        # a row whose word is none stays so, and is asked again: a manner may go on behind BadHouse
        if self._words[row] is None:
            self._words[row] = asked(self.house, row)
        return self._words[row]


class Run:
    """What was written, heard and asked so far; who uses it tells what is done next."""

    def __init__(self, schedule, houses, manner):
        self.schedule = schedule
        self.manner = manner
        self.askings = [Asking(house) for house in houses]
        self.sent = []
        self.ears = []
        self._heard = [[] for _ in houses]

    def write(self, letter):
        """Have the next letter, of this number, written."""
        house = self.schedule.letters[letter][0]
        asking = self.askings[house]
        thing = self.manner.write(house, tuple(self._heard[house]), asking.ask, letter)
        if not is_thing(thing):
            raise BadLetter(letter)
        self.sent.append(thing)

    def hear(self, letter, ear):
        """Have the next letter that was written, of this number, heard so."""
        if not is_ear(ear):
            raise BadEar(letter)
        self.ears.append(ear)
        self._heard[self.schedule.letters[letter][1]].append((letter, ear))

    def heard(self, house):
        """What the house heard so far."""
        return tuple(self._heard[house])

    def tell(self, house):
        """What the house tells of all that it heard."""
        asking = self.askings[house]
        return self.manner.tell(house, self.heard(house), asking.ask)
