"""Pictures of runs and of bars, a line for each beat."""

from turnedtalk.basics import is_lot, is_number, is_tuple_of
from turnedtalk.errors import NoBarShown
from turnedtalk.records import lost, turned
from turnedtalk.schedules import rounds

PLAIN = "."


def mark_of(letter, marks):
    """The mark beside the lot in which the letter is, PLAIN if it is in none."""
    for lot, mark in marks:
        if letter in lot:
            return mark
    return PLAIN


def pictured(schedule, marks):
    """A line for each beat with its letters; marks tells lots, each with the mark of its letters."""
    lines = []
    for letters in rounds(schedule):
        words = [str(schedule.letters[letters[0]][2])]
        for letter in letters:
            sender, hearer, _ = schedule.letters[letter]
            words.append(str(sender) + ">" + str(hearer) + mark_of(letter, marks))
        lines.append(" ".join(words) + "\n")
    return "".join(lines)


def picture(schedule, record):
    """The picture of a run."""
    return pictured(schedule, ((lost(record), "x"), (turned(record), "!")))


def can_be_shown(schedule, thing):
    """Whether it is a triple of a number and two lots of letters of the schedule, none in both."""
    if not is_tuple_of(thing, 3, 3) or not is_number(thing[0]):
        return False
    _, ahead, behind = thing
    many = len(schedule.letters)
    return is_lot(ahead, many) and is_lot(behind, many) and not any([letter in ahead for letter in behind])


def bar_picture(schedule, thing):
    """The picture of a bar."""
    if not can_be_shown(schedule, thing):
        raise NoBarShown()
    index, ahead, behind = thing
    return "word " + str(index) + "\n" + pictured(schedule, ((ahead, "a"), (behind, "b")))
