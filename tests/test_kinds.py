"""9.1: AllAhead, least_known, and the fact of known kinds."""

import itertools
import random
import unittest

from tests.odd import odd_things
from tests.own import lots
from turnedtalk.bars import by_turns
from turnedtalk.errors import NoKind, NoNumber, NoOrder, TooMany
from turnedtalk.faults import Faults
from turnedtalk.houses import Table, Voice, talk
from turnedtalk.kinds import AllAhead, least_known
from turnedtalk.records import carried
from turnedtalk.schedules import Schedule, turns_line

KIND = ("n", "y")
NO_ORDERS = [(), [0], (2,), (0, 2), (-1,), (True,), ("0",), (0,) * 41, None, "0", {0: 1}, 0]
NO_KINDS = [
    (), ("a",), ("a", "a"), ("b", "a"), ("a", "b", "b"), ("a", "c", "b"), ("a", "b", "c", "d", "e"), ["a", "b"], "ab",
    ("a", "b\n"), ("a", 1), (1, 2), (None, None), ("a", "b" * 41), ("a", "\t"), ("\n", "a"), None, True, {"a": 1, "b": 2},
    {"a", "b"}, (("a",), ("b",)), ("a", ["b"]), (b"a", b"b"), Table((), "a"), ("a", True), (False, "a"),
]
NO_COUNTS = [-1, 9, 10 ** 20 - 1, True, False, None, "1", (1,), [1], b"1"]


def drawn_house(chance, kind, length):
    """A Table that tells words of the kind behind rows of it."""
    rows = sorted(row for size in range(length) for row in itertools.product(kind, repeat=size))
    pairs = tuple((row, chance.choice(kind)) for row in rows if chance.random() < 0.8)
    return Table(pairs[:200], chance.choice(kind))


def own_rows(order, kind, house):
    """The rows of words of the kind behind which the house is the owner, ascending."""
    rows = [()]
    found = []
    for owner in order:
        if owner == house:
            found += rows
        rows = [(*row, word) for row in rows for word in kind]
    return sorted(found)


def own_told(order, house, heard, ask):
    """What is told as Votes tell: word by word, by the claims that were heard."""
    row = ()
    for owner in order:
        if owner == house:
            row += (ask(row),)
            continue
        votes = [word for _, ear in heard for thing in ear if isinstance(thing, tuple) for at, word in thing if at == row]
        if not votes:
            return row
        most = max(votes.count(word) for word in votes)
        row += (min(word for word in votes if votes.count(word) == most),)
    return row


class Manner(unittest.TestCase):
    def test_what_it_holds(self):
        manner = AllAhead((0, 1), ("a", "b", "c"))
        self.assertEqual((manner.order, manner.kind), ((0, 1), ("a", "b", "c")))
        self.assertEqual(AllAhead((1,), ("", " ")).kind, ("", " "))
        self.assertEqual(AllAhead((1,), ("A" * 40, "~")).kind, ("A" * 40, "~"))

    def test_what_it_writes(self):
        chance = random.Random(91)
        for _ in range(150):
            order = tuple(chance.randrange(2) for _ in range(chance.randint(1, 5)))
            kind = tuple(sorted(chance.sample(["", "a", "b", "ab", "~"], chance.randint(2, 4))))
            manner = AllAhead(order, kind)
            house = chance.randrange(2)
            table = drawn_house(chance, kind, len(order))
            expected = tuple((row, table.word(row)) for row in own_rows(order, kind, house))
            for heard in [(), ((1, ((((), kind[0]),),)),), ((0, ()), (2, (None,)), (4, ((((), "zz"),),)))]:
                self.assertEqual(manner.write(house, heard, table.word, chance.randrange(60)), expected)

    def test_its_rows_at_own_turns(self):
        # the own words behind rows that can't come about are written, too
        table = Table((((), "n"), (("y", "n"), "y")), "n")
        written = AllAhead((0, 1, 0), KIND).write(0, (), table.word, 0)
        self.assertEqual(
            written, (((), "n"), (("n", "n"), "n"), (("n", "y"), "n"), (("y", "n"), "y"), (("y", "y"), "n"))
        )
        self.assertEqual(AllAhead((0, 0), KIND).write(1, (), table.word, 0), ())

    def test_what_it_tells(self):
        chance = random.Random(92)
        for _ in range(300):
            order = tuple(chance.randrange(2) for _ in range(chance.randint(1, 4)))
            manner = AllAhead(order, KIND)
            house = chance.randrange(2)
            table = drawn_house(chance, KIND, len(order))
            heard = []
            for letter in range(chance.randint(0, 5)):
                rows = sorted({tuple(chance.choice("ny") for _ in range(chance.randrange(4))) for _ in range(6)})
                claims = tuple((row, chance.choice(["n", "y", "other"])) for row in rows)
                heard.append((letter, chance.choice([(), (claims,), (claims,), ((),)])))
            told = manner.tell(house, tuple(heard), table.word)
            self.assertEqual(told, own_told(order, house, heard, table.word))

    def test_what_is_no_claim_thing_claims_nothing(self):
        manner = AllAhead((0,), KIND)
        for thing in [None, "ny", (((), "n"), ((), "y")), ((("n",), "n"), ((), "y")), (((), "n", 1),), [((), "n")], ((), "n")]:
            self.assertEqual(manner.tell(1, ((0, (thing,)),), None), ())
            self.assertEqual(manner.tell(1, ((0, (thing,)), (2, ((((), "y"),),))), None), ("y",))

    def test_the_least_of_those_claimed_as_often(self):
        heard = tuple((at, ((((), word),),)) for at, word in enumerate(["y", "n", "y", "n", "a"]))
        self.assertEqual(AllAhead((0,), KIND).tell(1, heard, None), ("n",))
        self.assertEqual(AllAhead((0,), KIND).tell(1, heard[:3], None), ("y",))


class Errors(unittest.TestCase):
    def test_no_order_then_no_kind_then_too_many(self):
        for order in NO_ORDERS:
            for kind in [KIND, *NO_KINDS]:
                with self.assertRaises(NoOrder):
                    AllAhead(order, kind)
        for kind in NO_KINDS:
            for order in [(0,), (0,) * 40]:
                with self.assertRaises(NoKind, msg=repr(kind)):
                    AllAhead(order, kind)

    def test_too_many(self):
        for words, most in [(2, 11), (3, 8), (4, 6)]:
            kind = ("a", "b", "c", "d")[:words]
            self.assertLessEqual(sum(words ** size for size in range(most)), 4000)
            manner = AllAhead((0,) * most, kind)
            self.assertEqual(len(manner.write(0, (), lambda row: "a", 0)), sum(words ** size for size in range(most)))
            for length in [most + 1, most + 2, 40]:
                with self.assertRaises(TooMany) as caught:
                    AllAhead((1,) * length, kind)
                self.assertEqual(caught.exception.most, 4000)

    def test_odd_things(self):
        for thing in odd_things():
            if thing != ("a", "\n"):
                with self.assertRaises(NoKind):
                    AllAhead((0, 1), thing)
            with self.assertRaises(NoKind):
                AllAhead((0, 1), ("a", thing))


class LeastKnown(unittest.TestCase):
    def test_numbers(self):
        self.assertEqual(least_known((0, 1, 0), 1, 1), 8)
        for lost in range(9):
            for turned in range(9):
                rest = 2 * lost + 4 * turned
                for order, k in [((0,), 1), ((0, 0), 1), ((1,), 2), ((1,) * 40, 2), ((0, 1), 2), ((1, 0), 2), ((1, 1, 0), 2)]:
                    self.assertEqual(least_known(order, lost, turned), k + rest)

    def test_errors_in_their_order(self):
        for order in NO_ORDERS:
            for count in [0, None, 9]:
                with self.assertRaises(NoOrder):
                    least_known(order, count, count)
        for count in NO_COUNTS:
            for lost, turned in [(count, 0), (0, count), (count, count)]:
                with self.assertRaises(NoNumber):
                    least_known((0, 1), lost, turned)


class Fact(unittest.TestCase):
    def drawn_faults(self, chance, letters, order, lost, turned, count):
        """All lots of lost letters if they are few, with turned ones, each into claims of any kind."""
        for _ in range(count):
            chosen = chance.sample(range(letters), min(letters, lost + turned))
            away, into = chosen[:lost], sorted(chosen[lost:])
            things = []
            for _ in into:
                words = [chance.choice(["n", "y", "other"]) for _ in range(2)]
                rows = [row for house in range(2) for row in own_rows(order, KIND, house)]
                claims = tuple((row, words[len(row) % 2]) for row in sorted(set(rows)))
                things.append(chance.choice([claims, claims, None, claims[:1]]))
            yield Faults(tuple(sorted(away)), tuple(zip(into, things)))

    def test_right_with_letters_enough(self):
        chance = random.Random(93)
        for order in [(0,), (1,), (0, 1), (1, 0), (0, 1, 0), (1, 1, 0), (1, 0, 1, 0)]:
            for lost, turned in [(0, 0), (1, 0), (0, 1), (1, 1), (2, 1), (0, 2)]:
                for more in (0, 1, 2):
                    letters = least_known(order, lost, turned) + more
                    for faults in self.drawn_faults(chance, letters, order, lost, turned, 12):
                        houses = tuple(drawn_house(chance, KIND, len(order)) for _ in range(2))
                        record = carried(turns_line(letters), houses, AllAhead(order, KIND), faults)
                        self.assertEqual(record.told, (talk(houses, order),) * 2)

    def test_all_lots(self):
        order = (0, 1)
        letters = least_known(order, 1, 1)
        houses = (Table((), "n"), Table((), "n"))
        wrong = tuple((row, "y") for row in sorted({(), ("n",), ("y",)}))
        for lost in lots(letters, 1):
            for letter in range(letters):
                if letter not in lost:
                    faults = Faults(lost, ((letter, wrong),))
                    told = carried(turns_line(letters), houses, AllAhead(order, KIND), faults).told
                    self.assertEqual(told, (("n", "n"), ("n", "n")))

    def test_wrong_with_fewer(self):
        for order in [(0,), (1,), (0, 1), (1, 0)]:
            for lost, turned in [(0, 0), (1, 0), (0, 1), (2, 1), (1, 2)]:
                letters = least_known(order, lost, turned) - 1
                houses = (Table((), "y"), Table((), "y"))
                # the house that writes less often of those that have words
                owner = 1 if 1 in order else 0
                own = [number for number in range(letters) if number % 2 == owner]
                self.assertLessEqual(len(own), lost + 2 * turned)
                wrong = tuple((row, "n") for row in own_rows(order, KIND, owner))
                faults = Faults(tuple(own[:lost]), tuple((number, wrong) for number in own[lost:][:turned]))
                told = carried(turns_line(letters), houses, AllAhead(order, KIND), faults).told
                self.assertNotEqual(told[1 - owner], talk(houses, order))

    def test_another_schedule(self):
        # what it writes hangs on nothing that it heard, so all of it may be written at once
        order = by_turns(5)
        schedule = Schedule(2, ((0, 1, 0), (1, 0, 0)))
        houses = (Voice(lambda row: KIND[len(row) % 2]), Voice(lambda row: KIND["n" in row]))
        self.assertEqual(carried(schedule, houses, AllAhead(order, KIND), Faults((), ())).told, (talk(houses, order),) * 2)


if __name__ == "__main__":
    unittest.main()
