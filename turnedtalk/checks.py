"""Errors that several points name for the same arguments."""

from math import comb

from turnedtalk.basics import is_from_to, is_house, is_lot, is_order
from turnedtalk.errors import NoHouse, NoLetters, NoNumber, NoOrder, NoOther, TooMany

MOST_FAULTS = 8
MOST_LOTS = 200000


def check_order(schedule, order):
    """Raise NoOrder unless it is one of the schedule's houses."""
    if not is_order(order, schedule.many):
        raise NoOrder()


def check_house(schedule, house):
    """Raise NoHouse unless it is the number of one."""
    if not is_house(house, schedule.many):
        raise NoHouse()


def check_two_houses(schedule, house, other):
    """Raise NoHouse unless both are numbers of houses, NoOther if they are one."""
    check_house(schedule, house)
    check_house(schedule, other)
    if house == other:
        raise NoOther()


def check_count(count):
    """Raise NoNumber unless so many letters may be told to be lost, or to be turned."""
    if not is_from_to(count, 0, MOST_FAULTS):
        raise NoNumber()


def check_letters(schedule, lot):
    """Raise NoLetters unless it is a lot of letters of the schedule."""
    if not is_lot(lot, len(schedule.letters)):
        raise NoLetters()


def check_lots(letters, most):
    """Raise TooMany if there are too many lots of at most so many of so many letters."""
    lots = sum([comb(letters, size) for size in range(most + 1)])
    if lots > MOST_LOTS:
        raise TooMany(MOST_LOTS)
