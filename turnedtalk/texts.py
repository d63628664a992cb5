"""Texts of things, schedules, orders and faults, and what is read from such."""

from turnedtalk.basics import is_order
from turnedtalk.errors import BadText, BadThing, NoOrder, NoThing
from turnedtalk.faults import Faults
from turnedtalk.schedules import MOST_HOUSES, Schedule
from turnedtalk.things import is_leaf

MOST_DEEP = 40
MOST_FIGURES = 20
MOST_FIGURES_TOLD = 9
FIGURES = ("0", "1", "2", "3", "4", "5", "6", "7", "8", "9")
# for each sign that stands behind a tilde in the text of a string what both stand for
TILDES = {"~": "~", "'": "'", "n": "\n"}
# for the first sign of each text that is a word the whole one, and what it stands for
WORDS = {"y": ("yes", True), "n": ("no", False)}


def leaf_text(leaf):
    """The text of a thing that is no tuple."""
    if leaf is None:
        return "-"
    if isinstance(leaf, bool):
        return "yes" if leaf else "no"
    if isinstance(leaf, int):
        return str(leaf)
    return "'" + leaf.replace("~", "~~").replace("'", "~'").replace("\n", "~n") + "'"


def thing_text(thing):
    """The text of a thing."""
    written = []
    # what is still to be written: things with how many tuples are around them, and signs, with -1
    waiting = [(thing, 0)]
    while waiting:
        one, around = waiting.pop()
        if around == -1:
            written.append(one)
        elif not isinstance(one, tuple):
            if not is_leaf(one):
                raise NoThing()
            written.append(leaf_text(one))
        elif around == MOST_DEEP:
            raise NoThing()
        else:
            waiting.append((")", -1))
            for at in range(len(one) - 1, -1, -1):
                waiting.append((one[at], around + 1))
                if at > 0:
                    waiting.append((",", -1))
            waiting.append(("(", -1))
    return "".join(written)


def read_figures(text, at):
    """The integer of which the first figure stands at this place, not being needless, and the place behind it."""
    end = at + 1
    while text[at] != "0" and text[end:end + 1] in FIGURES and end - at < MOST_FIGURES:
        end += 1
    return int(text[at:end]), end


def read_word(text, at):
    """The flag whose text begins at this place, and the place behind it."""
    word, worth = WORDS[text[at]]
    for sign in word:
        if text[at:at + 1] != sign:
            raise BadThing(at)
        at += 1
    return worth, at


def read_string(text, at):
    """The string whose text begins at this place, and the place behind it."""
    signs = []
    at += 1
    while text[at:at + 1] != "'":
        sign = text[at:at + 1]
        if sign == "~":
            at += 1
            sign = TILDES.get(text[at:at + 1])
            if sign is None:
                raise BadThing(at)
        elif sign == "" or not sign.isascii() or not sign.isprintable():
            raise BadThing(at)
        signs.append(sign)
        at += 1
    return "".join(signs), at + 1


def read_leaf(text, at):
    """The thing that is no tuple whose text begins at this place, and the place behind it."""
    sign = text[at:at + 1]
    if sign == "'":
        return read_string(text, at)
    if sign in WORDS:
        return read_word(text, at)
    if sign in FIGURES:
        return read_figures(text, at)
    if sign != "-":
        raise BadThing(at)
    figure = text[at + 1:at + 2]
    if figure == "0" or figure not in FIGURES:
        return None, at + 1
    number, end = read_figures(text, at + 1)
    return -number, end


def read_thing(text):
    """The thing of just this text."""
    if not isinstance(text, str):
        raise BadThing(-1)
    # the items of the tuples that are open
    opened = []
    at = 0
    while True:
        if text[at:at + 1] == "(" and len(opened) < MOST_DEEP:
            opened.append([])
            at += 1
            if text[at:at + 1] != ")":
                continue
        else:
            thing, at = read_leaf(text, at)
            if opened:
                opened[-1].append(thing)
        while opened and text[at:at + 1] == ")":
            thing = tuple(opened.pop())
            at += 1
            if opened:
                opened[-1].append(thing)
        if not opened:
            if at < len(text):
                raise BadThing(at)
            return thing
        if text[at:at + 1] != ",":
            raise BadThing(at)
        at += 1


def numbers_line(word, numbers):
    """The line of a word and these numbers."""
    return " ".join([word, *[str(number) for number in numbers]]) + "\n"


def schedule_text(schedule):
    """The text of a Schedule."""
    return numbers_line("houses", (schedule.many,)) + "".join([numbers_line("letter", one) for one in schedule.letters])


def order_text(order):
    """The text of an order."""
    if not is_order(order, MOST_HOUSES):
        raise NoOrder()
    return numbers_line("order", order)


def faults_text(faults):
    """The text of Faults."""
    turned = ["turned " + str(number) + " " + thing_text(thing) + "\n" for number, thing in faults.turned]
    return numbers_line("lost", faults.lost) + "".join(turned)


def is_number_text(thing):
    """Whether it is a number in figures, few enough and none of them needless."""
    if not 1 <= len(thing) <= MOST_FIGURES_TOLD or not thing.isascii() or not thing.isdigit():
        return False
    return thing == "0" or thing[0] != "0"


def read_numbers(line, word):
    """The numbers behind this word, as a tuple; None if it is no such line."""
    words = line.split(" ")
    if words[0] != word or not all([is_number_text(number) for number in words[1:]]):
        return None
    return tuple([int(number) for number in words[1:]])


def read_so_many(line, word, many):
    """The same, None if there are not so many."""
    numbers = read_numbers(line, word)
    return None if numbers is None or len(numbers) != many else numbers


def read_houses_line(line):
    """How many houses the line tells, as a tuple of one; None if it is none."""
    return read_so_many(line, "houses", 1)


def read_letter_line(line):
    """The letter that the line tells, None if it is none."""
    return read_so_many(line, "letter", 3)


def read_order_line(line):
    """The owners that the line tells, None if it is none."""
    return read_numbers(line, "order")


def read_lost_line(line):
    """The lost letters that the line tells, None if it is none."""
    return read_numbers(line, "lost")


def read_no_line(line):
    """None, for where no line can stand."""
    return None


def read_turned_line(line):
    """The pair of a turned letter and its thing, None if the line is none."""
    word, _, rest = line.partition(" ")
    number, _, text = rest.partition(" ")
    if word != "turned" or not is_number_text(number):
        return None
    try:
        return int(number), read_thing(text)
    except BadThing:
        return None


def read_lines(text, first, further):
    """What the one function tells of the first line, and the other one of those behind, in a list."""
    if not isinstance(text, str):
        raise BadText(0)
    lines = text.split("\n")
    behind = lines.pop()
    told = []
    for at, line in enumerate(lines):
        one = first(line) if at == 0 else further(line)
        if one is None:
            raise BadText(at + 1)
        told.append(one)
    if behind != "" or not lines:
        raise BadText(len(lines) + 1)
    return told


def read_schedule(text):
    """The Schedule of this text."""
    told = read_lines(text, read_houses_line, read_letter_line)
    return Schedule(told[0][0], tuple(told[1:]))


def read_order(text):
    """The order of this text."""
    told = read_lines(text, read_order_line, read_no_line)
    if not is_order(told[0], MOST_HOUSES):
        raise NoOrder()
    return told[0]


def read_faults(text):
    """The Faults of this text."""
    told = read_lines(text, read_lost_line, read_turned_line)
    return Faults(told[0], tuple(told[1:]))
