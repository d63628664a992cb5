"""Things, which letters hold, and ears, which are heard of them [3.2].

A house may write all that it heard, and the other one likewise; then one
thing stands within another one more often than one would like to count.
So equal things are looked at once, where this can be told quickly. And no
walk here calls itself, for things may be nested deeper than calls can.
"""

from turnedtalk.wordless import Wordless

# so many tuples are looked at one by one, before equal ones are looked for
PLAIN_LOOKS = 5000
MOST_OF_A_SHAPE = 100
# what has more parts is not written out to be compared
MOST_WRITTEN = 2000


def is_leaf(thing):
    """Whether it is a thing that holds no other ones."""
    return thing is None or isinstance(thing, (int, str))


class Shelf(Wordless):
    """Tuples that hold tuples, each with a mark; there those are found that Python calls equal to one.

    Python finds out at once that something is equal to itself, so this is
    quick where one thing stands within many others.
    """

    def __init__(self):
        self._shapes = {}

    def marks(self, thing):
        """The marks of what is equal to the tuple, in a list."""
        return [mark for one, mark in self._shapes.get(shape_of(thing), []) if one == thing]

    def keep(self, thing, mark):
        """Keep the tuple with the mark, if there are not too many like it."""
        kept = self._shapes.setdefault(shape_of(thing), [])
        if len(kept) < MOST_OF_A_SHAPE:
            kept.append((thing, mark))


def shape_of(thing):
    """How many items each item of a tuple has, -1 for what is no tuple; equal tuples have one shape."""
    return tuple([len(part) if isinstance(part, tuple) else -1 for part in thing])


def holds_tuples(thing):
    """Whether an item of a tuple is a tuple."""
    return any([isinstance(part, tuple) for part in thing])


def is_thing(thing):
    """Whether it is a thing; what is equal to a thing is one, too."""
    waiting = [thing]
    shelf = Shelf()
    looks = 0
    while waiting:
        one = waiting.pop()
        if not isinstance(one, tuple):
            if not is_leaf(one):
                return False
            continue
        looks += 1
        if looks <= PLAIN_LOOKS or not holds_tuples(one):
            waiting.extend(one)
        elif not shelf.marks(one):
            shelf.keep(one, True)
            waiting.extend(one)
    return True


def is_ear(thing):
    """Whether it is an ear."""
    return isinstance(thing, tuple) and len(thing) <= 1 and is_thing(thing)


class Numbering(Wordless):
    """Numbers for things: one number for those that are equal, also in kind, through and through.

    Python calls 1 and True equal, so each thing has to be gone through to
    its leaves, wherever it stands. When this has taken long, it is left to
    repr for what Python calls equal to something that has a number: repr
    goes through to the leaves as well, writes those of unlike kinds in
    unlike ways, and is quicker than the walk here.
    """

    def __init__(self):
        self.things = []
        self.parts = []
        self._sizes = []
        self._texts = {}
        self._leaves = {}
        self._tuples = {}
        self._shelf = Shelf()
        self._looks = 0

    def number(self, thing):
        """The number of a thing, None for what is no thing."""
        opened = [((thing,), [])]
        while True:
            items, numbers = opened[-1]
            if len(numbers) == len(items):
                opened.pop()
                if not opened:
                    return numbers[0]
                opened[-1][1].append(self.number_of(items, tuple(numbers)))
                continue
            item = items[len(numbers)]
            if isinstance(item, tuple):
                known = self._known_number(item)
                if known is None:
                    opened.append((item, []))
                else:
                    numbers.append(known)
            elif is_leaf(item):
                numbers.append(self._number_of_leaf(item))
            else:
                return None

    def number_of(self, thing, parts):
        """The number of a tuple whose items have these numbers."""
        if parts not in self._tuples:
            size = 1 + sum([self._sizes[part] for part in parts])
            self._tuples[parts] = self._next_number(thing, parts, size)
            if size <= MOST_WRITTEN and holds_tuples(thing):
                self._shelf.keep(thing, self._tuples[parts])
        return self._tuples[parts]

    def _number_of_leaf(self, leaf):
        key = (isinstance(leaf, bool), leaf)
        if key not in self._leaves:
            size = len(leaf) if isinstance(leaf, str) else 1
            self._leaves[key] = self._next_number(leaf, (), size)
        return self._leaves[key]

    def _next_number(self, thing, parts, size):
        self.things.append(thing)
        self.parts.append(parts)
        self._sizes.append(size)
        return len(self.things) - 1

    def _known_number(self, thing):
        """The number of the tuple, if it is found without a walk through all of it."""
        self._looks += 1
        if self._looks <= PLAIN_LOOKS or not holds_tuples(thing):
            return None
        numbers = self._shelf.marks(thing)
        if not numbers:
            return None
        text = repr(thing)
        for number in numbers:
            if self._text(number) == text:
                return number
        return None

    def _text(self, number):
        if number not in self._texts:
            self._texts[number] = repr(self.things[number])
        return self._texts[number]


def alike(one, other):
    """Whether two things are equal, also in kind, through and through."""
    if one != other:
        return False
    numbering = Numbering()
    return numbering.number(one) == numbering.number(other)
