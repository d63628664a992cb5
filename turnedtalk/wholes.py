"""Whole telling: each house writes all that it knows, and looks which letters may have been turned."""

from turnedtalk.basics import is_from_to
from turnedtalk.checks import check_count, check_house, check_letters, check_lots, check_order
from turnedtalk.errors import NoLetter, NoState
from turnedtalk.fittings import Fitting
from turnedtalk.states import States
from turnedtalk.wordless import Wordless


def told_answers(state):
    """The answers of a State, as they stand in what is written."""
    return tuple([(row, word) for row, word in state.answers.items()])


def written_state(schedule, order, house, heard, ask):
    """The state of a house, whatever was passed."""
    state = States(schedule, order).own_state(house, heard, ask)
    return (house, heard, told_answers(state))


def fitting_of(schedule, order, lost, state):
    """The Fitting of a state; it raises NoState if it is none."""
    states = States(schedule, order)
    found = states.any_state(state)
    if found is None:
        raise NoState()
    return Fitting(states, found, lost)


def is_state(schedule, order, letter, thing):
    """Whether it is a state of the house from which the letter comes, as it could be when it writes it."""
    check_order(schedule, order)
    if not is_from_to(letter, 0, len(schedule.letters) - 1):
        raise NoLetter()
    return States(schedule, order).heard_state(letter, thing) is not None


def state_of(schedule, order, house, heard, ask):
    """The state of a house that heard this."""
    check_order(schedule, order)
    check_house(schedule, house)
    return written_state(schedule, order, house, heard, ask)


def checked_fitting(schedule, order, lost, state, lot):
    """The Fitting of a state, if all of these are right."""
    check_order(schedule, order)
    check_count(lost)
    fitting = fitting_of(schedule, order, lost, state)
    check_letters(schedule, lot)
    return fitting


def fits(schedule, order, lost, state, lot):
    """Whether the lot fits the state."""
    answers, _ = checked_fitting(schedule, order, lost, state, lot).look(lot)
    return answers is not None


def told_by(schedule, order, lost, state, lot):
    """The row that the lot tells, () if it does not fit the state."""
    return checked_fitting(schedule, order, lost, state, lot).told_by(lot)


def sure(schedule, order, lost, turned, state):
    """What is sure of the state, if at most so many letters were lost and turned."""
    check_order(schedule, order)
    check_count(lost)
    check_count(turned)
    fitting = fitting_of(schedule, order, lost, state)
    check_lots(len(schedule.letters), turned)
    return fitting.sure(turned)


def fewest_turned(schedule, order, lost, state):
    """How many letters the first lot has that fits, None if none does."""
    check_order(schedule, order)
    check_count(lost)
    fitting = fitting_of(schedule, order, lost, state)
    letters = len(schedule.letters)
    check_lots(letters, letters)
    lot = fitting.first(letters)
    return None if lot is None else len(lot)


class Whole(Wordless):
    """A manner for a schedule and an order, right wherever one is, with so many letters lost and turned at most."""

    def __init__(self, schedule, order, lost, turned):
        check_order(schedule, order)
        check_count(lost)
        check_count(turned)
        check_lots(len(schedule.letters), lost + turned)
        self.schedule = schedule
        self.order = order
        self.lost = lost
        self.turned = turned

    def write(self, house, heard, ask, letter):
        """The state of the house."""
        return written_state(self.schedule, self.order, house, heard, ask)

    def tell(self, house, heard, ask):
        """What the first lot tells that fits the house's state, () if none does."""
        states = States(self.schedule, self.order)
        return self.told_of(states, states.own_state(house, heard, ask))

    def told_of(self, states, state):
        """What the first lot tells that fits the State, one of these, () if none does."""
        fitting = Fitting(states, state, self.lost)
        lot = fitting.first(self.turned)
        return () if lot is None else fitting.told_by(lot)
