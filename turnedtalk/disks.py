"""Disks, of which the last lines may be lost, and the lines by which things are noted on them."""

from turnedtalk.basics import is_from_to
from turnedtalk.errors import BadThing, NoCut, NoLine, NoNumber
from turnedtalk.texts import read_thing, thing_text
from turnedtalk.wordless import Wordless

CHECKS = 1000003


def is_line(thing):
    """Whether it is a line of a disk."""
    # of ASCII just the signs from the blank to the tilde are printable
    return isinstance(thing, str) and thing.isascii() and thing.isprintable()


class Disk(Wordless):
    """Lines, of which the last ones wait: of these but a beginning may be there behind a fall."""

    def __init__(self):
        self._lines = []
        self._synced = 0

    def write(self, line):
        """Write one more line, that waits."""
        if not is_line(line):
            raise NoLine()
        self._lines.append(line)

    def sync(self):
        """Let no line wait any more."""
        self._synced = len(self._lines)

    def lines(self):
        """The lines, in a list."""
        return list(self._lines)

    def synced(self):
        """How many of the lines don't wait."""
        return self._synced

    def cut(self, kept):
        """Keep of each line that waits so many signs; then none waits."""
        waiting = self._lines[self._synced:]
        if not isinstance(kept, tuple) or len(kept) != len(waiting):
            raise NoCut()
        if not all([is_from_to(many, 0, len(line)) for many, line in zip(kept, waiting)]):
            raise NoCut()
        self._lines = self._lines[:self._synced] + [line[:many] for many, line in zip(kept, waiting)]
        self._synced = len(self._lines)

    def drop(self, number):
        """Let go of the lines from this number on."""
        if not is_from_to(number, 0, len(self._lines)):
            raise NoNumber()
        self._lines = self._lines[:number]
        self._synced = min(self._synced, number)

    def copy(self):
        """A Disk with the same lines, of which the same wait."""
        disk = Disk()
        disk._lines = list(self._lines)
        disk._synced = self._synced
        return disk


def check_of(text):
    """The check of a text."""
    return sum([ord(sign) * place for place, sign in enumerate(text, start=1)]) % CHECKS


def record_line(thing):
    """The line by which the thing is noted."""
    text = thing_text(thing)
    return text + " " + str(check_of(text))


def read_line(line):
    """A tuple of the thing that the line notes, () if it notes none."""
    if not isinstance(line, str):
        return ()
    text, _, _ = line.rpartition(" ")
    try:
        thing = read_thing(text)
    except BadThing:
        return ()
    # a thing has but one line, and that tells the check, too
    return (thing,) if record_line(thing) == line else ()
