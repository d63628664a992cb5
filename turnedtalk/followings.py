"""A Whole in one run.

It knows what it wrote itself, and of which letters just that was heard. So
nothing of it has to be gone through again: over sixty letters by turns a
state has thousands of billions of parts.
"""

from turnedtalk.states import States
from turnedtalk.wholes import told_answers
from turnedtalk.wordless import Wordless


class Following(Wordless):
    """What a Whole writes and tells in a run over its own schedule; it is told what is heard."""

    def __init__(self, whole):
        self._whole = whole
        self._states = States(whole.schedule, whole.order)
        # for each letter the number of what was written, and that of the ear
        self._written = {}
        self._ears = {}

    def write(self, house, heard, ask, letter):
        """The state of the house."""
        number = self._number_of_heard(heard)
        answers = told_answers(self._states.state_that_heard(house, number, ask))
        state = (house, heard, answers)
        parts = (self._states.number(house), number, self._states.number(answers))
        self._written[letter] = self._states.number_of(state, parts)
        return state

    def hear(self, letter, ear, as_written):
        """Take notice of what is heard of a letter, and whether just this was written."""
        if as_written:
            self._ears[letter] = self._states.number_of(ear, (self._written[letter],))
        else:
            self._ears[letter] = self._states.number(ear)

    def tell(self, house, heard, ask):
        """What the house tells."""
        state = self._states.state_that_heard(house, self._number_of_heard(heard), ask)
        return self._whole.told_of(self._states, state)

    def _number_of_heard(self, heard):
        states = self._states
        pairs = [states.number_of(pair, (states.number(pair[0]), self._ears[pair[0]])) for pair in heard]
        return states.number_of(heard, tuple(pairs))
