"""The desk, which works by lines."""

from turnedtalk.bars import bar, gets_over
from turnedtalk.errors import NoLine, NoName
from turnedtalk.houses import talk
from turnedtalk.liars import all_met
from turnedtalk.parts import has_letters
from turnedtalk.pictures import picture
from turnedtalk.programs import read_program
from turnedtalk.records import carried
from turnedtalk.schedules import both_line, turns_line
from turnedtalk.texts import is_number_text, read_faults, read_order, read_schedule, thing_text
from turnedtalk.votes import Votes
from turnedtalk.ways import apart
from turnedtalk.wholes import Whole
from turnedtalk.wordless import Wordless

# stands for a line feed within a line
FEED = "|"
OK = "ok"
NONE = "none"
EMPTY = "-"
SORTS = ("schedule", "order", "faults", "house")
NUMBER = "number"
# for each word, but those that are a sort, what stands behind it: names of a sort, a new name, numbers
PARTS = {
    "line": ("new", "number"),
    "both": ("new", "number"),
    "bar": ("schedule", "order", "number", "number", "number"),
    "over": ("schedule", "order", "number", "number"),
    "apart": ("schedule", "number", "number"),
    "met": ("schedule", "number", "number", "number"),
    "talk": ("order", "house", "house"),
    "votes": ("schedule", "order", "house", "house", "faults"),
    "whole": ("schedule", "order", "house", "house", "faults", "number", "number"),
    "show": ("schedule", "order", "house", "house", "faults"),
}


def read_sort(sort, text):
    """What of this sort the text tells."""
    if sort == "schedule":
        return read_schedule(text)
    if sort == "order":
        return read_order(text)
    if sort == "faults":
        return read_faults(text)
    return read_program(text)


def are_parts(words, parts):
    """Whether the words have the form of these parts."""
    if len(words) != len(parts):
        return False
    return all([is_number_text(word) if part == NUMBER else has_letters(word) for word, part in zip(words, parts)])


def lot_text(lot):
    """The numbers of a lot with blanks between."""
    return " ".join([str(number) for number in lot]) if lot else EMPTY


def told_bar(schedule, order, goal, lost, turned):
    """A bar, or that there is none."""
    found = bar(schedule, order, goal, lost, turned)
    if found is None:
        return NONE
    index, ahead, behind = found
    return str(index) + ": " + lot_text(ahead) + " / " + lot_text(behind)


def told_over(schedule, order, lost, turned):
    """Whether the talk gets over to all."""
    return "yes" if gets_over(schedule, order, lost, turned) else "no"


def told_apart(schedule, house, other):
    """How many ways there are of which no two share a letter."""
    return str(len(apart(schedule, house, other)))


def told_met(schedule, house, other, most):
    """The houses of which each way passes one."""
    lot = all_met(schedule, house, other, most)
    return NONE if lot is None else lot_text(lot)


def told_talk(order, one, other):
    """The words of the talk."""
    return thing_text(talk((one, other), order))


def told_votes(schedule, order, one, other, faults):
    """What both houses tell by Votes."""
    return thing_text(carried(schedule, (one, other), Votes(order), faults).told)


def told_whole(schedule, order, one, other, faults, lost, turned):
    """What both houses tell by Whole."""
    manner = Whole(schedule, order, lost, turned)
    return thing_text(carried(schedule, (one, other), manner, faults).told)


def told_show(schedule, order, one, other, faults):
    """The picture of a run by Votes."""
    return picture(schedule, carried(schedule, (one, other), Votes(order), faults)).replace("\n", FEED)


ANSWERS = {
    "bar": told_bar,
    "over": told_over,
    "apart": told_apart,
    "met": told_met,
    "talk": told_talk,
    "votes": told_votes,
    "whole": told_whole,
    "show": told_show,
}


class Desk(Wordless):
    """What is kept under names, and answers about it, all by lines."""

    def __init__(self):
        self._kept = {sort: {} for sort in SORTS}

    def tell(self, line):
        """Do what the line says, and tell the answer."""
        if not isinstance(line, str) or "\n" in line:
            raise NoLine()
        word, _, rest = line.partition(" ")
        if word in SORTS:
            return self._keep_text(word, rest)
        if word not in PARTS or not are_parts(rest.split(" "), PARTS[word]):
            raise NoLine()
        return self._answer(word, rest.split(" "))

    def _keep_text(self, sort, rest):
        """Keep what a text tells under a name."""
        name, _, text = rest.partition(" ")
        if not has_letters(name) or text == "":
            raise NoLine()
        return self._keep(sort, name, read_sort(sort, text.replace(FEED, "\n")))

    def _keep(self, sort, name, thing):
        self._kept[sort][name] = thing
        return OK

    def _answer(self, word, words):
        """The answer to a line of this word and these others, which have its form."""
        if word == "line":
            return self._keep("schedule", words[0], turns_line(int(words[1])))
        if word == "both":
            return self._keep("schedule", words[0], both_line(int(words[1])))
        told = [self._told(part, one) for part, one in zip(PARTS[word], words)]
        answer = ANSWERS[word]
        return answer(*told)

    def _told(self, part, word):
        """The number that the word is, or what is kept under this name."""
        if part == NUMBER:
            return int(word)
        if word not in self._kept[part]:
            raise NoName(word)
        return self._kept[part][word]
