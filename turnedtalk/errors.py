"""The errors of the package: each its own class, directly below TalkError."""


class TalkError(ValueError):
    """What all errors of the package are."""


class BadHouse(TalkError):
    """A house tells what is no word behind this row."""

    def __init__(self, row):
        self.row = row


class BadTable(TalkError):
    """The pairs, the pair of this number, or the other word of a Table is none."""

    def __init__(self, part):
        self.part = part


class BadText(TalkError):
    """A text has a fault in this line, counted from 1; 0 if it is no string."""

    def __init__(self, line):
        self.line = line


class BadSchedule(TalkError):
    """How many houses, the letters, or the letter of this number of a Schedule is none."""

    def __init__(self, part):
        self.part = part


class BadFaults(TalkError):
    """The lost, the turned, or the turned one at this place of Faults is none."""

    def __init__(self, part):
        self.part = part


class BadLetter(TalkError):
    """What is written in the letter of this number is no thing."""

    def __init__(self, letter):
        self.letter = letter


class BadEar(TalkError):
    """What is heard of the letter of this number is no ear."""

    def __init__(self, letter):
        self.letter = letter


class BadThing(TalkError):
    """The text of a thing can't go on at this place; -1 if it is no string."""

    def __init__(self, place):
        self.place = place


class NoName(TalkError):
    """Nothing of its sort is kept under this name."""

    def __init__(self, name):
        self.name = name


class TooMany(TalkError):
    """There would be more than so many."""

    def __init__(self, most):
        self.most = most


class NoRow(TalkError):
    """What was passed is no row."""


class NoOrder(TalkError):
    """What was passed is no order of the houses."""


class BadProgram(TalkError):
    """What was passed is no tuple of statements, or too deep, or too long."""


class NoProgram(TalkError):
    """What was passed is no Program."""


class NoNumber(TalkError):
    """What was passed is no number, or none that can be taken."""


class NoNet(TalkError):
    """What was passed tells no houses with ties between them."""


class NoLetters(TalkError):
    """What was passed is no lot of letters of the schedule."""


class NoHouses(TalkError):
    """What was passed is no tuple of so many houses, or not so many are let."""


class NoHouse(TalkError):
    """What was passed is no number of a house."""


class NoIndex(TalkError):
    """What was passed is no index of a word of the order."""


class NoOther(TalkError):
    """The two houses are one."""


class NoLetter(TalkError):
    """What was passed is no number of a letter of the schedule."""


class NoState(TalkError):
    """What was passed is no state."""


class NoBar(TalkError):
    """There is no bar."""


class NoKind(TalkError):
    """What was passed is no kind of words."""


class NoEar(TalkError):
    """What was passed is no ear."""


class NotNow(TalkError):
    """It is not the turn for this."""


class NoFaults(TalkError):
    """No letters are lost and none are turned."""


class NoTellings(TalkError):
    """What was passed is no tuple of tellings."""


class NoWord(TalkError):
    """What was passed is no word."""


class NoLiars(TalkError):
    """What was passed is no dict of liars."""


class NoLine(TalkError):
    """What was passed is no line that can be taken."""


class NoCut(TalkError):
    """What was passed is no cut of the lines that wait."""


class NoThing(TalkError):
    """What was passed is no thing that has a text."""


class NoDisk(TalkError):
    """What was passed is no Disk."""


class NoBarShown(TalkError):
    """What was passed is no bar that can be shown."""
