"""An own account of 10.1, from all letters that went, each time anew, which the tests compare with."""


class Gone:
    """It is not the turn for this."""


def is_claims(thing):
    """6.1: a tuple of pairs (row, word), rows ascending."""
    if not isinstance(thing, tuple):
        return False
    for pair in thing:
        if not isinstance(pair, tuple) or len(pair) != 2 or not isinstance(pair[0], tuple):
            return False
        words = [*pair[0], pair[1]]
        if len(pair[0]) > 400 or any(not isinstance(word, str) or len(word) > 40 or "\n" in word for word in words):
            return False
    rows = [row for row, _ in thing]
    return rows == sorted(set(rows))


class OwnEar:
    """10.1, word by word: history tells of each letter who wrote it and what it claimed, rows being whole."""

    def __init__(self, number, house, window, lost, turned):
        self.number = number
        self.house = house
        self.window = window
        self.lost = lost
        self.turned = turned
        self.history = []
        self.row = ()
        self.look()

    def look(self):
        while len(self.row) < 400:
            if len(self.row) % 2 == self.number:
                self.row += (self.house.word(self.row),)
                continue
            last = self.history[-self.window:]
            words = [claims[self.row] for writer, claims in last if writer != self.number and self.row in claims]
            enough = sorted(word for word in words if words.count(word) >= self.turned + 1)
            if not enough:
                return
            self.row += (enough[0],)

    def tree(self):
        level, found = [self.row], []
        while level:
            found += level
            behind = []
            for row in level:
                if len(row) == 400:
                    continue
                if len(row) % 2 == self.number:
                    behind.append(row + (self.house.word(row),))
                else:
                    words = {claims[row] for writer, claims in self.history if writer != self.number and row in claims}
                    behind += [row + (word,) for word in words]
            level = behind
        return found

    def base(self):
        needed = 2 * self.turned + self.lost + 1
        own = [claims for writer, claims in self.history if writer == self.number]
        bases = []
        for many in range(len(self.row) + 1):
            turns = [at for at in range(many) if at % 2 == self.number]
            if all(sum(claims.get(self.row[:at]) == self.row[at] for claims in own) >= needed for at in turns):
                bases.append(many)
        return max(bases)

    def may(self, writer):
        return len(self.history) % 2 == writer and len(self.row) < 400

    def letter(self):
        if not self.may(self.number):
            return Gone
        base = self.base()
        rows = {row for row in self.tree() if len(row) % 2 == self.number and len(row) < 400}
        rows |= {self.row[:many] for many in range(base, len(self.row) + 1) if many % 2 == self.number and many < 400}
        claims = {row: self.house.word(row) for row in rows}
        self.history.append((self.number, claims))
        self.look()
        return base, tuple(sorted((row[base:], word) for row, word in claims.items()))

    def hear(self, ear):
        if not self.may(1 - self.number):
            return Gone
        claims = {}
        for thing in ear:
            if isinstance(thing, tuple) and len(thing) == 2 and type(thing[0]) is int and is_claims(thing[1]):
                if 0 <= thing[0] <= len(self.row):
                    claims = {self.row[:thing[0]] + row: word for row, word in thing[1]}
        self.history.append((1 - self.number, {row: word for row, word in claims.items() if len(row) < 400}))
        self.look()
        return None
