"""Pictures of runs and of bars, a line for each beat."""

from turnedtalk.basics import is_lot, is_number, is_tuple_of
from turnedtalk.errors import NoBarShown
from turnedtalk.records import lost, turned
from turnedtalk.schedules import rounds

PLAIN = "."


def pictured(schedule, marks):
    """A line for each beat with its letters, each with its mark, PLAIN if it has none."""
    lines = []
    for letters in rounds(schedule):
        words = [str(schedule.letters[letters[0]][2])]
        for letter in letters:
            sender, hearer, _ = schedule.letters[letter]
            words.append(str(sender) + ">" + str(hearer) + marks.get(letter, PLAIN))
        lines.append(" ".join(words) + "\n")
    return "".join(lines)


def marked(lot, mark):
    """The same mark for each letter of a lot."""
    return {letter: mark for letter in lot}


def picture(schedule, record):
    """The picture of a run."""
    return pictured(schedule, {**marked(lost(record), "x"), **marked(turned(record), "!")})


def can_be_shown(schedule, thing):
    """Whether it is a triple of a number and two lots of letters of the schedule, none in both."""
    if not is_tuple_of(thing, 3, 3) or not is_number(thing[0]):
        return False
    index, ahead, behind = thing
    many = len(schedule.letters)
    return is_lot(ahead, many) and is_lot(behind, many) and not any([letter in ahead for letter in behind])


def bar_picture(schedule, thing):
    """The picture of a bar."""
    if not can_be_shown(schedule, thing):
        raise NoBarShown()
    index, ahead, behind = thing
    return "word " + str(index) + "\n" + pictured(schedule, {**marked(ahead, "a"), **marked(behind, "b")})
