"""States of houses, and the states that stand within what they heard [7.1]."""

from turnedtalk.basics import is_house, is_integer, is_tuple_of
from turnedtalk.claims import considered_rows, owned_rows
from turnedtalk.houses import is_row_and_word
from turnedtalk.schedules import letters_to
from turnedtalk.things import Numbering
from turnedtalk.wordless import Wordless

# the number that an ear has in which nothing was heard
LOST = -1


def letters_ahead(schedule, house, beat):
    """The letters to a house of lesser beats than this one."""
    return [letter for letter in letters_to(schedule, house) if schedule.letters[letter][2] < beat]


def has_letters(heard, letters):
    """Whether it tells ears of just these letters, whatever was heard of them."""
    if not is_tuple_of(heard, len(letters), len(letters)):
        return False
    for pair, letter in zip(heard, letters):
        if not is_tuple_of(pair, 2, 2) or not is_tuple_of(pair[1], 0, 1):
            return False
        if not is_integer(pair[0]) or pair[0] != letter:
            return False
    return True


def are_answers(thing):
    """Whether it is a tuple of pairs of a row and a word."""
    return isinstance(thing, tuple) and all([is_row_and_word(pair) for pair in thing])


class State(Wordless):
    """A state: its house, its ears by the numbers of their things, its answers, and the places of all states within."""

    def __init__(self, house, ears, answers, within):
        self.house = house
        self.ears = ears
        self.answers = answers
        self.within = within


class States(Wordless):
    """The states that stand within what a house heard.

    Things go by their numbers, so that each is judged once for each
    letter, however often it stands within others.
    """

    def __init__(self, schedule, order):
        self.schedule = schedule
        self.order = order
        self._placed = []
        # for each letter and thing where its State is placed, None if it is none
        self._found = {}
        self._numbering = Numbering()

    def found(self, letter, number):
        """The State that was heard of a letter, None if the thing of this number is none."""
        place = self._found[letter, number]
        return None if place is None else self._placed[place]

    def heard_state(self, letter, thing):
        """The State that the thing is, as it is written in the letter; None if it is none."""
        number = self._numbering.number(thing)
        if number is None:
            return None
        self._look_within(((letter, number),))
        return self.found(letter, number)

    def any_state(self, thing):
        """The State of any house, at any beat, that the thing is; None if it is none."""
        number = self._numbering.number(thing)
        if number is None or not is_tuple_of(thing, 3, 3) or not is_house(thing[0], self.schedule.many):
            return None
        letters = letters_to(self.schedule, thing[0])
        many = len(thing[1]) if isinstance(thing[1], tuple) else 0
        if 0 < many < len(letters):
            beat = self.schedule.letters[letters[many]][2]
            # of a beat, all letters are heard or none
            if self.schedule.letters[letters[many - 1]][2] == beat:
                return None
        ears = self._ears(number, thing[0], letters[:many])
        if ears is None:
            return None
        self._look_within(ears)
        return self._judged(number, ears)

    def own_state(self, house, heard, ask):
        """The State of a house that heard this."""
        return self.state_that_heard(house, self.number(heard), ask)

    def state_that_heard(self, house, number, ask):
        """The State of a house, what it heard having this number."""
        ears = self._ears_of_heard(number)
        self._look_within(ears)
        return self._made(house, ears, ask)

    def number(self, thing):
        """The number of a thing."""
        return self._numbering.number(thing)

    def number_of(self, thing, parts):
        """The number of a tuple whose items have these numbers."""
        return self._numbering.number_of(thing, parts)

    def _ears_of_heard(self, number):
        """The letters and the numbers of what was heard of them, heard having this number."""
        parts = self._numbering.parts
        ears = []
        for pair in parts[number]:
            letter, ear = parts[pair]
            held = parts[ear]
            ears.append((self._numbering.things[letter], held[0] if held else LOST))
        return tuple(ears)

    def _ears(self, number, house, letters):
        """The same of a thing, None unless it is a triple of the house, of what it heard of these letters, and more."""
        thing = self._numbering.things[number]
        if not is_tuple_of(thing, 3, 3) or not is_integer(thing[0]) or thing[0] != house:
            return None
        return self._ears_of_heard(self._numbering.parts[number][1]) if has_letters(thing[1], letters) else None

    def _look_within(self, ears):
        """Find out of all that stands within these ears whether it is a state."""
        opened = {}
        waiting = list(ears)
        while waiting:
            letter, number = waiting.pop()
            if number == LOST or (letter, number) in opened or (letter, number) in self._found:
                continue
            house, _, beat = self.schedule.letters[letter]
            inner = self._ears(number, house, letters_ahead(self.schedule, house, beat))
            opened[letter, number] = inner
            if inner is not None:
                waiting.extend(inner)
        # what stands within a letter came by letters with lesser numbers, so it is judged first
        for letter, number in sorted(opened):
            inner = opened[letter, number]
            state = None if inner is None else self._judged(number, inner)
            self._found[letter, number] = None if state is None else len(self._placed)
            if state is not None:
                self._placed.append(state)

    def _judged(self, number, ears):
        """The State that the thing with these ears is, None unless it has just the answers that it would have."""
        house, _, told = self._numbering.things[number]
        if not are_answers(told):
            return None
        answers = {row: word for row, word in told}
        # a row that lacks its answer is among those of the State made, and then not among those told
        state = self._made(house, ears, lambda row: answers.get(row, ""))
        return state if list(state.answers) == [row for row, _ in told] else None

    def _made(self, house, ears, own):
        """The State of a house with these ears, own telling its words."""
        within = self._places_within(ears)
        claims = self._claims(within)
        rows = considered_rows(self.order, house, own, lambda owner, row: claims.get((owner, row), []))
        answers = {row: own(row) for row in sorted(owned_rows(self.order, house, rows))}
        return State(house, ears, answers, within)

    def _places_within(self, ears):
        within = {}
        for letter, number in ears:
            place = None if number == LOST else self._found[letter, number]
            if place is not None:
                within[place] = True
                within.update(self._placed[place].within)
        return within

    def _claims(self, within):
        """For each house and row the words that are answered there in the States of these places."""
        claims = {}
        for place in within:
            state = self._placed[place]
            for row, word in state.answers.items():
                words = claims.setdefault((state.house, row), [])
                if word not in words:
                    words.append(word)
        return claims
