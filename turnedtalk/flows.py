"""As many ways as can be, of which no two share a letter, and the fewest letters that meet all ways.

Both come from one search: a further way is found by following letters
that are free, and by giving letters of the ways found so far other
followers; where none is found any more, the letters at which the search
stops meet all ways.
"""

from turnedtalk.wordless import Wordless

# stand for what is ahead of the first letter of a way, and behind its last one
START = -1
END = -2


def usable_letters(schedule, house, beat, other):
    """The letters that a way from the house to the other one needs, none of a lesser beat.

    A way that comes back to the house, or goes on from the other one, has
    a shorter one within it.
    """
    found = []
    for number, (sender, hearer, written) in enumerate(schedule.letters):
        if sender != other and hearer != house and written >= beat:
            found.append(number)
    return found


class Flow(Wordless):
    """Ways from what a house knows at a beat to another house, no two of which share a letter.

    A letter has two ends: (number, 0), at which it is written, and
    (number, 1), at which it is heard.
    """

    def __init__(self, schedule, house, beat, other):
        self.letters = schedule.letters
        self.house = house
        self.other = other
        self.usable = usable_letters(schedule, house, beat, other)
        self._followers = {number: self._followers_of(number) for number in self.usable}
        # for each letter of the ways the one ahead of it, and the one behind it
        self._ahead = {}
        self._behind = {}
        self._reached = {}

    def _followers_of(self, number):
        _, hearer, written = self.letters[number]
        return [one for one in self.usable if self.letters[one][0] == hearer and self.letters[one][2] > written]

    def beats(self):
        """The beats of the letters that can be used, ascending."""
        return sorted(set([self.letters[number][2] for number in self.usable]))

    def width(self):
        """How many ways there are."""
        return len([number for number in self._ahead if self._ahead[number] == START])

    def fill(self, beat):
        """Make the ways as many as can be with letters up to this beat."""
        while self._search(beat):
            self._take_over()

    def ways(self):
        """The ways, as tuples of letters, in a list."""
        found = []
        for number in sorted(self._ahead):
            if self._ahead[number] == START:
                way = [number]
                while self._behind[way[-1]] != END:
                    way.append(self._behind[way[-1]])
                found.append(tuple(way))
        return found

    def cut(self):
        """A lot of as few letters as can be that has one of each way, up to the beat of the last fill."""
        return tuple([
            number for number in self.usable if (number, 0) in self._reached and (number, 1) not in self._reached
        ])

    def _search(self, beat):
        """Whether there is one more way up to this beat; it keeps from where each end was reached."""
        waiting = []
        for number in self.usable:
            if self.letters[number][0] == self.house and self.letters[number][2] <= beat:
                waiting.append((number, 0))
        self._reached = {end: None for end in waiting}
        at = 0
        while at < len(waiting):
            end = waiting[at]
            at += 1
            if end[1] == 1 and self.letters[end[0]][1] == self.other:
                self._reached[END] = end
                return True
            for further in self._next_ends(end, beat):
                if further not in self._reached:
                    self._reached[further] = end
                    waiting.append(further)
        return False

    def _next_ends(self, end, beat):
        """The ends to which the search goes on."""
        number, heard = end
        if heard == 1:
            found = [(one, 0) for one in self._followers[number] if self.letters[one][2] <= beat]
            return [*found, (number, 0)] if number in self._ahead else found
        if number not in self._ahead:
            return [(number, 1)]
        # it is taken over, so the one ahead of it on its way needs another follower
        return [] if self._ahead[number] == START else [(self._ahead[number], 1)]

    def _take_over(self):
        """Change the ways by the one that was found."""
        path = [self._reached[END]]
        while self._reached[path[-1]] is not None:
            path.append(self._reached[path[-1]])
        came = START
        for number, heard in reversed(path):
            if heard == 0 and came == number:
                # its two ends the other way round: it is needed no more
                del self._ahead[number]
                del self._behind[number]
            elif heard == 0:
                self._ahead[number] = came
                if came != START:
                    self._behind[came] = number
            came = number
        self._behind[came] = END
