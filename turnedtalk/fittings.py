"""Which letters may have been turned, if a house knows what its state tells [7.2].

If a lot of letters fits, each greater one fits, and tells no more. If it
does not fit, there are letters of which each greater one that fits has
one; if all that it tells is not told by a greater one that fits, this
one has a letter by which it came. So not all lots have to be tried.
"""

from turnedtalk.states import LOST
from turnedtalk.wordless import Wordless


def true_of(states, first, lot):
    """The true States, each with the letters by which it came, as a list; and those of what is no state, or None."""
    true = [(first, ())]
    seen = {}
    at = 0
    while at < len(true):
        state, path = true[at]
        at += 1
        for letter, number in state.ears:
            if number != LOST and letter not in lot and (letter, number) not in seen:
                seen[letter, number] = True
                inner = states.found(letter, number)
                if inner is None:
                    return true, path + (letter,)
                true.append((inner, path + (letter,)))
    return true, None


def clash_of_heard(true):
    """Letters by which two came, of one house, that did not hear the same; None if there are no such two."""
    houses = {}
    for state, path in true:
        houses.setdefault(state.house, []).append((len(state.ears), state.ears, path))
    for told in houses.values():
        ordered = sorted(told, key=lambda one: one[0])
        for less, more in zip(ordered, ordered[1:]):
            if more[1][:less[0]] != less[1]:
                return less[2] + more[2]
    return None


def clash_of_lost(true, lost):
    """Letters by which came that more than so many were lost; None if they were not."""
    paths = {}
    for state, path in true:
        for letter, number in state.ears:
            if number == LOST and letter not in paths:
                paths[letter] = path
    if len(paths) <= lost:
        return None
    shortest = sorted(list(paths.values()), key=len)[:lost + 1]
    return tuple([letter for path in shortest for letter in path])


def answers_of(true):
    """For each house and row the word answered there, with letters by which it came; and those of a clash, or None."""
    answers = {}
    for state, path in true:
        for row, word in state.answers.items():
            key = (state.house, row)
            if key not in answers:
                answers[key] = (word, path)
            elif answers[key][0] != word:
                return answers, path + answers[key][1]
    return answers, None


def common_beginning(one, other):
    """The longest row with which both begin."""
    many = 0
    while many < min(len(one), len(other)) and one[many] == other[many]:
        many += 1
    return one[:many]


def greater_lots(lot, barred, letters):
    """The lot with one of these letters each, but a barred one; and for each the letters barred from then on.

    A lot with several of the letters is greater than that with the first
    one of them alone, so the letters ahead are barred.
    """
    found = []
    for letter in sorted(set(letters)):
        if letter not in barred:
            found.append((tuple(sorted([*lot, letter])), barred))
            barred = (*barred, letter)
    return found


class Fitting(Wordless):
    """What lots of letters tell, for one State among those within which it knows."""

    def __init__(self, states, state, lost):
        self.states = states
        self.state = state
        self.lost = lost

    def look(self, lot):
        """What is answered in true states, if the lot fits; else None, with letters of which one must be in it."""
        true, clash = true_of(self.states, self.state, lot)
        if clash is None:
            clash = clash_of_heard(true)
        if clash is None:
            clash = clash_of_lost(true, self.lost)
        if clash is not None:
            return None, clash
        answers, clash = answers_of(true)
        return (answers, ()) if clash is None else (None, clash)

    def row(self, answers):
        """The row that is told, if this is answered in true states."""
        row = ()
        for owner in self.states.order:
            if (owner, row) not in answers:
                return row
            row = row + (answers[owner, row][0],)
        return row

    def told_by(self, lot):
        """The row that the lot tells, () if it does not fit."""
        answers, _ = self.look(lot)
        return () if answers is None else self.row(answers)

    def first(self, most):
        """The first lot, fewest first, of at most so many letters, that fits; None if there is none."""
        lots = [((), ())]
        for _ in range(most + 1):
            fitting = []
            greater = []
            for lot, barred in lots:
                answers, clash = self.look(lot)
                if answers is not None:
                    fitting.append(lot)
                else:
                    greater.extend(greater_lots(lot, barred, clash))
            if fitting:
                return min(fitting)
            lots = greater
        return None

    def sure(self, most):
        """The longest row with which all begin that are told by lots of at most so many letters; () if none fits."""
        common = None
        lots = [((), ())]
        while lots:
            lot, barred = lots.pop()
            answers, letters = self.look(lot)
            if answers is not None:
                row = self.row(answers)
                common = row if common is None else common_beginning(common, row)
                letters = self._letters_behind(common, answers)
            if len(lot) < most:
                lots.extend(greater_lots(lot, barred, letters))
        return () if common is None else common

    def _letters_behind(self, row, answers):
        """Letters by which the words of a row came."""
        owners = self.states.order
        return [letter for at in range(len(row)) for letter in answers[owners[at], row[:at]][1]]
