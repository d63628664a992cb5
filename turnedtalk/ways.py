"""Ways by which one word comes from a house to another one."""

from turnedtalk.basics import is_from_to, is_lot
from turnedtalk.checks import check_two_houses
from turnedtalk.flows import Flow
from turnedtalk.schedules import BEATS_END
from turnedtalk.walks import known_from


def full_flow(schedule, house, other):
    """As many ways as can be from a house to another one."""
    flow = Flow(schedule, house, 0, other)
    flow.fill(BEATS_END)
    return flow


def apart(schedule, house, other):
    """A list of as many ways as can be of which no two share a letter."""
    check_two_houses(schedule, house, other)
    return full_flow(schedule, house, other).ways()


def meeting(schedule, house, other):
    """A lot of as few letters as can be that has one of each way."""
    check_two_houses(schedule, house, other)
    return full_flow(schedule, house, other).cut()


def is_way(schedule, house, other, thing):
    """Whether it is a way from the house to the other one."""
    if not isinstance(thing, tuple) or len(thing) == 0:
        return False
    at = house
    beat = -1
    for number in thing:
        if not is_from_to(number, 0, len(schedule.letters) - 1):
            return False
        sender, hearer, written = schedule.letters[number]
        if sender != at or written <= beat:
            return False
        at = hearer
        beat = written
    return at == other


def are_apart(schedule, house, other, thing):
    """Whether it is a list of ways of which no two share a letter."""
    check_two_houses(schedule, house, other)
    if not isinstance(thing, list):
        return False
    passed = {}
    for way in thing:
        if not is_way(schedule, house, other, way):
            return False
        for number in way:
            if number in passed:
                return False
            passed[number] = True
    return True


def is_meeting(schedule, house, other, thing):
    """Whether it is a lot of letters that has one of each way, however many."""
    check_two_houses(schedule, house, other)
    if not is_lot(thing, len(schedule.letters)):
        return False
    return known_from(schedule, house, 0, thing)[other] is None
