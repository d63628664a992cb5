"""How long barred letters can keep a word from where it is to come.

No lots of letters have to be tried. The talk goes on word by word; letters
barred to hold up one word stand ahead of those barred to hold up the next
one, and what starts later comes no sooner. So for each word and each
number of barred letters it is enough to know how late its owner can be
made to know all words ahead.
"""

from turnedtalk.flows import Flow
from turnedtalk.schedules import BEATS_END
from turnedtalk.wordless import Wordless


def delays(schedule, house, beat, other, most):
    """How late the other house can be made to know what the house knows at the beat.

    A list: for each number of barred letters, up to most, the beat, None
    for never, and a lot of so many letters at most that does it.
    """
    if house == other:
        return [(beat, ())] * (most + 1)
    flow = Flow(schedule, house, beat, other)
    found = []
    cut = ()
    for written in flow.beats():
        flow.fill(written)
        while len(found) <= most and len(found) < flow.width():
            found.append((written + 1, cut))
        cut = flow.cut()
    while len(found) <= most:
        found.append((None, cut))
    return found


def lateness(told):
    """What is greater the later the beat is that is told first, of never the greatest."""
    return BEATS_END + 1 if told[0] is None else told[0]


class Barring(Wordless):
    """What barred letters, at most so many, can do to a talk."""

    def __init__(self, schedule, order, most):
        self.schedule = schedule
        self.order = order
        self.most = most
        self._delays = {}
        self._cuts = {}
        self._latest = [[(0, ())] * (most + 1)]
        for index in range(1, len(order)):
            self._latest.append([self._latest_of(index, many) for many in range(most + 1)])

    def _latest_of(self, index, many):
        """How late the owner of a word can know all words ahead, and the letters barred for this, at most so many."""
        return max([self._held_up(index, many - here, here) for here in range(many + 1)], key=lateness)

    def _held_up(self, index, ahead, here):
        """The same, if so many letters hold up the words ahead, and so many the word of the owner ahead."""
        beat, letters = self._latest[index - 1][ahead]
        if beat is None:
            return beat, letters
        house, other = self.order[index - 1], self.order[index]
        key = (house, beat, other)
        if key not in self._delays:
            self._delays[key] = delays(self.schedule, house, beat, other, self.most)
        then, further = self._delays[key][here]
        return then, letters + further

    def _cut(self, house, beat, goal):
        """As few letters as can be that keep what the house knows at the beat from the goal."""
        key = (house, beat, goal)
        if key not in self._cuts:
            flow = Flow(self.schedule, house, beat, goal)
            flow.fill(BEATS_END)
            self._cuts[key] = flow.cut()
        return self._cuts[key]

    def bar_at(self, index, goal, most_ahead, most_behind):
        """A bar of a word for a goal, with so many letters ahead and behind at most, None if there is none."""
        for many in range(most_ahead + 1):
            beat, letters = self._latest[index][many]
            if beat is None:
                return index, letters, ()
            cut = self._cut(self.order[index], beat, goal)
            spare = most_ahead - many
            if len(cut) <= spare + most_behind:
                return index, letters + cut[:spare], cut[spare:]
        return None

    def bar(self, goal, lost, turned):
        """A bar for a goal, None if there is none."""
        for index, owner in enumerate(self.order):
            for further in range(turned + 1):
                if owner != goal:
                    found = self.bar_at(index, goal, lost + further, 2 * (turned - further))
                    if found is not None:
                        return found
        return None
