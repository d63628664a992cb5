"""Ears that fall: what they do is noted on a disk, and read again."""

from turnedtalk.basics import is_from_to, is_tuple_of
from turnedtalk.disks import Disk, read_line, record_line
from turnedtalk.ears import Ear, check_ear, is_based
from turnedtalk.errors import NoDisk, NoNumber, NotNow
from turnedtalk.things import is_ear
from turnedtalk.votes import TWO
from turnedtalk.wordless import Wordless

MOST_DOWN = 200
WROTE = ("wrote",)
HEARD = "heard"


def heard_note(ear):
    """What is noted of a letter that was heard so."""
    return (HEARD, ear)


def is_heard_note(thing):
    """Whether it is noted so of a letter that was heard."""
    return is_tuple_of(thing, 2, 2) and thing[0] == HEARD and is_ear(thing[1])


def does(ear, line):
    """Whether the line notes what the Ear can do now; then it has done it."""
    for thing in read_line(line):
        try:
            if thing == WROTE:
                ear.letter()
                return True
            if is_heard_note(thing):
                ear.hear(thing[1])
                return True
        except NotNow:
            return False
    return False


def done_lines(ear, lines):
    """How many of the lines, from the first one on, the Ear can do; then it has done these."""
    many = 0
    while many < len(lines) and does(ear, lines[many]):
        many += 1
    return many


class SavedEar(Wordless):
    """An Ear whose doings are noted on a disk."""

    def __init__(self, number, house, window, lost, turned, disk):
        check_ear(number, window, lost, turned)
        if not isinstance(disk, Disk):
            raise NoDisk()
        self._number = number
        self._ear = Ear(number, house, window, lost, turned)
        self._disk = disk.copy()
        self._disk.drop(done_lines(self._ear, self._disk.lines()))

    def letter(self):
        """The thing that it writes now."""
        thing = self._ear.letter()
        self._disk.write(record_line(WROTE))
        # behind a fall it must not have told a letter of which it does not know
        self._disk.sync()
        return thing

    def hear(self, ear):
        """Hear the next letter of the other house."""
        known = len(self._ear.sure())
        self._ear.hear(ear)
        # any other thing claims nothing, and may have no text
        told = ear if ear == () or is_based(ear[0], known) else (None,)
        self._disk.write(record_line(heard_note(told)))

    def down(self, letters):
        """Let so many letters go by as if they were lost."""
        if not is_from_to(letters, 1, MOST_DOWN):
            raise NoNumber()
        ear = self._ear.copy()
        notes = []
        for _ in range(letters):
            if ear.beat() % TWO == self._number:
                ear.letter()
                notes.append(WROTE)
            else:
                ear.hear(())
                notes.append(heard_note(()))
        self._ear = ear
        for note in notes:
            self._disk.write(record_line(note))

    def sure(self):
        """The row of sure words."""
        return self._ear.sure()

    def kept(self):
        """How many rows its tree has."""
        return self._ear.kept()

    def beat(self):
        """How many letters have gone."""
        return self._ear.beat()

    def disk(self):
        """A copy of the disk."""
        return self._disk.copy()
