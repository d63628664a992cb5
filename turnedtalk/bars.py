"""What bars a talk, and how many letters it takes."""

from turnedtalk.barring import Barring
from turnedtalk.basics import MOST_OWNERS, is_from_to, is_lot, is_tuple_of
from turnedtalk.checks import check_count, check_house, check_lots, check_order
from turnedtalk.errors import NoNumber
from turnedtalk.walks import earliest_beats, known_from


def check_goal(schedule, order, goal, lost, turned):
    """Raise the error for the first of these that is wrong."""
    check_order(schedule, order)
    check_house(schedule, goal)
    check_count(lost)
    check_count(turned)


def are_few(ahead, behind, lost, turned):
    """Whether lots of a bar have as few letters as they must."""
    for further in range(turned + 1):
        if len(ahead) <= lost + further and len(behind) <= 2 * (turned - further):
            return True
    return False


def keep_back(schedule, order, goal, index, ahead, behind):
    """Whether these letters keep the word of this index from the goal."""
    beat = earliest_beats(schedule, order, ahead)[index]
    if beat is None:
        return True
    return known_from(schedule, order[index], beat, ahead + behind)[goal] is None


def is_bar(schedule, order, goal, lost, turned, thing):
    """Whether it is a bar for the goal, with so many letters lost and turned at most."""
    check_goal(schedule, order, goal, lost, turned)
    if not is_tuple_of(thing, 3, 3):
        return False
    index, ahead, behind = thing
    letters = len(schedule.letters)
    if not is_from_to(index, 0, len(order) - 1) or order[index] == goal:
        return False
    if not is_lot(ahead, letters) or not is_lot(behind, letters) or any([number in ahead for number in behind]):
        return False
    return are_few(ahead, behind, lost, turned) and keep_back(schedule, order, goal, index, ahead, behind)


def bar(schedule, order, goal, lost, turned):
    """A bar for the goal, with so many letters lost and turned at most; None if there is none."""
    check_goal(schedule, order, goal, lost, turned)
    check_lots(len(schedule.letters), lost + turned)
    return Barring(schedule, order, lost + turned).bar(goal, lost, turned)


def gets_over(schedule, order, lost, turned):
    """Whether there is no bar for any house."""
    check_goal(schedule, order, 0, lost, turned)
    check_lots(len(schedule.letters), lost + turned)
    barring = Barring(schedule, order, lost + turned)
    return all([barring.bar(goal, lost, turned) is None for goal in range(schedule.many)])


def check_words(words, lost, turned):
    """Raise NoNumber for the first of these that is wrong."""
    if not is_from_to(words, 1, MOST_OWNERS):
        raise NoNumber()
    check_count(lost)
    check_count(turned)


def least_turns(words, lost, turned):
    """How many letters by turns a talk by turns of so many words takes."""
    check_words(words, lost, turned)
    return words + 2 * lost + 4 * turned


def least_both(words, lost, turned):
    """How many beats at which both houses write a talk by turns of so many words takes."""
    check_words(words, lost, turned)
    return words + lost + 2 * turned


def by_turns(words):
    """The order of so many words in which house 0 and house 1 take turns."""
    check_words(words, 0, 0)
    return tuple([index % 2 for index in range(words)])
