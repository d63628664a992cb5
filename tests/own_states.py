"""Own accounts of states and of what they tell [7], step by step and slowly, which the tests compare with."""

from tests.own import lots, own_heard, same


def is_own_thing(thing):
    if type(thing) is tuple:
        return all(is_own_thing(part) for part in thing)
    return thing is None or type(thing) in (bool, int, str)


def is_own_word(thing):
    return type(thing) is str and len(thing) <= 40 and all(" " <= sign <= "~" for sign in thing)


def is_own_row(thing):
    return type(thing) is tuple and len(thing) <= 400 and all(is_own_word(word) for word in thing)


def own_rows(order, house, own, states):
    """The rows that a house considers, states being those that stand within what it heard."""
    rows = [()]
    for row in rows:
        if len(row) < len(order):
            owner = order[len(row)]
            if owner == house:
                rows.append(row + (own(row),))
            else:
                told = {word for state in states if state[0] == owner for at, word in state[2] if at == row}
                rows += [row + (word,) for word in sorted(told)]
    return rows


def own_answers(order, house, own, states):
    """The answers of a house, by its own account of its words."""
    rows = [row for row in own_rows(order, house, own, states) if len(row) < len(order) and order[len(row)] == house]
    return tuple((row, own(row)) for row in sorted(rows))


class Judge:
    """Judges states of a schedule and an order; it remembers what it has judged."""

    def __init__(self, schedule, order):
        self.schedule = schedule
        self.order = order
        self.known = {}

    def is_state(self, letter, thing):
        key = (letter, repr(thing))
        if key not in self.known:
            house, _, beat = self.schedule.letters[letter]
            self.known[key] = self.is_state_at(house, beat, thing)
        return self.known[key]

    def is_state_at(self, house, beat, thing):
        """Whether it is a state of the house ahead of the beat."""
        if type(thing) is not tuple or len(thing) != 3 or type(thing[0]) is not int or thing[0] != house:
            return False
        _, heard, answers = thing
        numbers = [at for at, (_, to, then) in enumerate(self.schedule.letters) if to == house and then < beat]
        if type(heard) is not tuple or len(heard) != len(numbers):
            return False
        for pair, number in zip(heard, numbers):
            if type(pair) is not tuple or len(pair) != 2 or type(pair[0]) is not int or pair[0] != number:
                return False
            if type(pair[1]) is not tuple or len(pair[1]) > 1 or not is_own_thing(pair[1]):
                return False
        if type(answers) is not tuple:
            return False
        for pair in answers:
            if type(pair) is not tuple or len(pair) != 2 or not is_own_row(pair[0]) or not is_own_word(pair[1]):
                return False
        words = dict(answers)
        return own_answers(self.order, house, lambda row: words.get(row, ""), self.within(heard)) == answers

    def is_any_state(self, thing):
        """Whether it is a state of any house at any beat."""
        houses, beats = range(self.schedule.many), range(1001)
        beats = sorted({0, 1000} | {letter[2] + 1 for letter in self.schedule.letters} & set(beats))
        return any(self.is_state_at(house, beat, thing) for house in houses for beat in beats)

    def within(self, heard):
        """All states that stand within what was heard."""
        found = []
        for number, ear in heard:
            if ear and self.is_state(number, ear[0]):
                found.append(ear[0])
                found += self.within(ear[0][1])
        return found

    def state(self, house, heard, ask):
        return (house, heard, own_answers(self.order, house, ask, self.within(heard)))

    def true_states(self, state, lot):
        """The true states, or None if one of them is no state."""
        found = [state]
        for one in found:
            for number, ear in one[1]:
                if number not in lot and ear:
                    if not self.is_state(number, ear[0]):
                        return None
                    if not any(same(ear[0], known) for known in found):
                        found.append(ear[0])
        return found

    def fits(self, lost, state, lot):
        true = self.true_states(state, lot)
        if true is None:
            return False
        gone = {number for one in true for number, ear in one[1] if ear == ()}
        if len(gone) > lost:
            return False
        for one in true:
            for other in true:
                if one[0] == other[0]:
                    least = min(len(one[1]), len(other[1]))
                    if not same(one[1][:least], other[1][:least]):
                        return False
                    for row, word in one[2]:
                        if dict(other[2]).get(row, word) != word:
                            return False
        return True

    def told_by(self, lost, state, lot):
        if not self.fits(lost, state, lot):
            return ()
        row = ()
        while len(row) < len(self.order):
            owner = self.order[len(row)]
            words = {dict(one[2])[row] for one in self.true_states(state, lot) if one[0] == owner and row in dict(one[2])}
            if not words:
                return row
            row += (words.pop(),)
        return row

    def sure(self, lost, turned, state):
        """What is sure, and what the first lot that fits tells; all lots are gone through."""
        told = [
            self.told_by(lost, state, lot) for lot in lots(len(self.schedule.letters), turned)
            if self.fits(lost, state, lot)
        ]
        if not told:
            return (), ()
        many = 0
        while all(len(row) > many and row[many] == told[0][many] for row in told):
            many += 1
        return told[0][:many], told[0]

    def fewest_turned(self, lost, state):
        for lot in lots(len(self.schedule.letters), len(self.schedule.letters)):
            if self.fits(lost, state, lot):
                return len(lot)
        return None


def states_of_record(schedule, order, record, houses):
    """The states of all houses at all beats of a run, the last ones those in the end."""
    judge = Judge(schedule, order)
    beats = sorted({0, 1000} | {letter[2] + 1 for letter in schedule.letters})
    return [
        judge.state(house, own_heard(schedule, record.ears, house, beat), houses[house].word)
        for beat in beats for house in range(schedule.many)
    ]
