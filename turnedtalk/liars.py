"""One word among houses that may lie: it goes by many ways, and each house tells by which it came."""

from turnedtalk.basics import is_from_to, is_house, is_number, is_word
from turnedtalk.checks import check_house, check_two_houses
from turnedtalk.errors import NoHouse, NoHouses, NoLiars, NoNumber, NoOther, NoTellings, NoWord
from turnedtalk.schedules import LEAST_HOUSES, MOST_HOUSES, letters_to, rounds
from turnedtalk.tellings import are_tellings, counted_words, lots_of, passed_on, sorted_tellings, taken_words
from turnedtalk.walks import known_from
from turnedtalk.wordless import Wordless


class Liar(Wordless):
    """A liar that writes what a function tells of what it heard and the letter."""

    def __init__(self, writing):
        self.writing = writing

    def write(self, heard, letter):
        """What it writes in the letter."""
        return self.writing(heard, letter)


def other_houses(many, house, other):
    """Those of so many houses that are neither of the two, in a list."""
    return [one for one in range(many) if one not in (house, other)]


def first_met(schedule, house, other, most):
    """The first lot of at most so many houses one of which each way passes, None if there is none."""
    for lot in lots_of(other_houses(schedule.many, house, other), most):
        barred = [letter for one in lot for letter in letters_to(schedule, one)]
        if known_from(schedule, house, 0, barred)[other] is None:
            return lot
    return None


def written_by(schedule, sender, house, heard, word):
    """The tellings that a true house writes which heard this, the sender's word being this."""
    if house == sender:
        return ((word, (sender,)),)
    return passed_on(counted_words(schedule, sender, house, heard), house)


class Routes(Wordless):
    """A manner by which the sender's word goes to all others, with the routes by which it came."""

    def __init__(self, schedule, sender):
        check_house(schedule, sender)
        self.schedule = schedule
        self.sender = sender

    def write(self, house, heard, ask, letter):
        """The tellings that the house writes."""
        word = ask(()) if house == self.sender else None
        return written_by(self.schedule, self.sender, house, heard, word)

    def tell(self, house, heard, ask):
        """The words that are taken if there are no liars; () for the sender."""
        if house == self.sender:
            return ()
        words = counted_words(self.schedule, self.sender, house, heard)
        return taken_words(sorted_tellings(words), other_houses(self.schedule.many, self.sender, house), 0)


def taken(many, sender, goal, liars, tellings):
    """The words that are taken of these tellings, if at most so many are liars."""
    if not is_from_to(many, LEAST_HOUSES, MOST_HOUSES):
        raise NoHouses()
    if not is_house(sender, many) or not is_house(goal, many):
        raise NoHouse()
    if sender == goal:
        raise NoOther()
    if not is_from_to(liars, 0, many):
        raise NoNumber()
    if not are_tellings(tellings, many, sender) or any([goal in route for _, route in tellings]):
        raise NoTellings()
    return taken_words(tellings, other_houses(many, sender, goal), liars)


def all_met(schedule, house, other, most):
    """The first lot of at most so many houses, neither of the two, one of which each way passes; or None."""
    check_two_houses(schedule, house, other)
    if not is_number(most):
        raise NoNumber()
    return first_met(schedule, house, other, most)


def are_liars(schedule, sender, goal, thing):
    """Whether it is a dict from houses that are neither of the two."""
    if not isinstance(thing, dict):
        return False
    return all([is_house(house, schedule.many) and house not in (sender, goal) for house in thing])


def lied(schedule, sender, goal, word, liars):
    """The tellings that count for the goal in the end, if the liars write as they like, and all others as Routes."""
    check_two_houses(schedule, sender, goal)
    if not is_word(word):
        raise NoWord()
    if not are_liars(schedule, sender, goal, liars):
        raise NoLiars()
    heard = [[] for _ in range(schedule.many)]
    for letters in rounds(schedule):
        sent = []
        for letter in letters:
            house = schedule.letters[letter][0]
            ears = tuple(heard[house])
            if house in liars:
                sent.append(liars[house].write(ears, letter))
            else:
                sent.append(written_by(schedule, sender, house, ears, word))
        for letter, thing in zip(letters, sent):
            heard[schedule.letters[letter][1]].append((letter, (thing,)))
    return sorted_tellings(counted_words(schedule, sender, goal, heard[goal]))


def two_worlds(schedule, sender, goal, liars):
    """Two lots of at most so many houses that together meet all ways, None if there are none."""
    check_two_houses(schedule, sender, goal)
    if not is_number(liars):
        raise NoNumber()
    lot = first_met(schedule, sender, goal, 2 * liars)
    if lot is None:
        return None
    half = (len(lot) + 1) // 2
    return lot[:half], lot[half:]
