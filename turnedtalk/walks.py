"""How what a house knows goes on by letters."""

from turnedtalk.basics import is_from_to, is_number
from turnedtalk.checks import check_house, check_letters, check_order
from turnedtalk.errors import NoIndex, NoNumber


def known_from(schedule, house, beat, barred):
    """For each house from which beat on it knows what this house knows at the beat, None if it never does."""
    known = [None] * schedule.many
    known[house] = beat
    for number, (sender, hearer, written) in enumerate(schedule.letters):
        if number in barred or known[hearer] is not None:
            continue
        # letters stand by their beats, so the first one to come is the least
        if known[sender] is not None and known[sender] <= written:
            known[hearer] = written + 1
    return tuple(known)


def earliest_beats(schedule, order, barred):
    """For each word of the order from which beat on its owner can know all words ahead, None if it never can."""
    beats = [0]
    for ahead, owner in zip(order, order[1:]):
        known = beats[-1] if beats[-1] is None else known_from(schedule, ahead, beats[-1], barred)[owner]
        beats.append(known)
    return beats


def spread(schedule, house, beat, barred):
    """For each house the least beat from which on it knows what this house knows at the beat, None if it never does."""
    check_house(schedule, house)
    if not is_number(beat):
        raise NoNumber()
    check_letters(schedule, barred)
    return known_from(schedule, house, beat, barred)


def earliest(schedule, order, index, barred):
    """The least beat from which on the owner of the word can know all words ahead, None if it never can."""
    check_order(schedule, order)
    if not is_from_to(index, 0, len(order) - 1):
        raise NoIndex()
    check_letters(schedule, barred)
    return earliest_beats(schedule, order, barred)[index]
