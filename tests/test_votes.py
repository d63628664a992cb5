"""6.1: trees and Votes."""

import itertools
import random
import unittest

from tests.odd import nested_tuple, odd_things
from tests.own import own_heard, random_schedule
from turnedtalk.bars import by_turns, least_both, least_turns
from turnedtalk.errors import BadHouse, NoHouse, NoOrder
from turnedtalk.faults import Faults
from turnedtalk.houses import Table, Voice, talk
from turnedtalk.records import carried
from turnedtalk.schedules import both_line, turns_line
from turnedtalk.votes import Votes, tree

P = (Table((((), "a"),), "b"), Table(((("a",), "c"),), "d"))
NO_ORDERS = [(), (2,), (0, 2), (-1,), (True,), (0, False), [0], [], (0,) * 41, None, 0, "01", {}, *odd_things()]
NO_CLAIMS = [
    None, True, 0, 1, "", "a", [], [((), "x")], ((), "x"), (((), "x"), None), (((), "x"), ((), "x")),
    (((), "x"), ((), "y")), ((("a",), "x"), ((), "y")), ((("b",), "x"), (("a",), "y")), (((), "x", "y"),), (((),),),
    (((), None),), (((), 1),), (((), ("x",)),), (((), "x" * 41),), (((), "\n"),), (((1,), "x"),), ((("a" * 41,), "x"),),
    ((("a",) * 401, "x"),), ((("a", None), "x"),), (("a", "x"),), (((("a",),), "x"),), nested_tuple(40),
    (((), "x"), (("a",), "y"), (("a",), "z")), ("x", ()), (("x", ()),), (((), "x"), (("a",), b"y")), (((), "x"), ((), 1)),
]


def own_claims(thing):
    """The pairs of a claim thing, () for any other thing."""
    rows = []
    if type(thing) is not tuple:
        return ()
    for pair in thing:
        if type(pair) is not tuple or len(pair) != 2 or type(pair[0]) is not tuple or len(pair[0]) > 400:
            return ()
        for word in (*pair[0], pair[1]):
            if type(word) is not str or len(word) > 40 or any(not " " <= sign <= "~" for sign in word):
                return ()
        rows.append(pair[0])
    return thing if rows == sorted(set(rows)) else ()


def own_tree(order, house, heard, word):
    """The tree, row by row."""
    claims = [pair for _, ear in heard if ear for pair in own_claims(ear[0])]
    found = [()]
    for row in found:
        if len(row) < len(order):
            words = {word(row)} if order[len(row)] == house else {told for at, told in claims if at == row}
            found += [row + (one,) for one in words]
    return tuple(sorted(found))


def own_told(order, house, heard, word):
    """What a house tells by Votes."""
    row = ()
    for owner in order:
        if owner == house:
            row += (word(row),)
        else:
            told = [pair[1] for _, ear in heard if ear for pair in own_claims(ear[0]) if pair[0] == row]
            if not told:
                return row
            row += (sorted(told, key=lambda one: (-told.count(one), one))[0],)
    return row


def own_written(order, house, heard, word):
    rows = [row for row in own_tree(order, house, heard, word) if len(row) < len(order) and order[len(row)] == house]
    return tuple((row, word(row)) for row in rows)


def some_table(chance, most):
    """A house whose words are of two."""
    rows = [row for many in range(most) for row in itertools.product("ab", repeat=many)]
    return Table(tuple((row, chance.choice("ab")) for row in sorted(rows)), chance.choice("ab"))


def some_claims(chance, most):
    """A claim thing, or what is nearly one."""
    if chance.random() < 0.2:
        return chance.choice([thing for thing in NO_CLAIMS if not isinstance(thing, list) and "b'" not in repr(thing)])
    rows = [row for many in range(most) for row in itertools.product("abx", repeat=many)]
    chosen = sorted(chance.sample(rows, min(len(rows), chance.choice([1, 2, 5, 9]))))
    return tuple((row, chance.choice(["a", "b", "x", ""])) for row in chosen)


class Trees(unittest.TestCase):
    def test_a_tree(self):
        heard = (
            (0, ((((), "x"),),)), (2, ()), (4, ((((), "a"), (("a", "d"), "q")),)), (6, ((((), "a"), (("a", "d"), "p")),)),
            (8, ((((), "n"), ((), "m")),)), (10, (None,)), (12, ((((), "a"), (("a",), "z"), (("x", "d", "e"), "f")),)),
        )
        self.assertEqual(tree((0, 1, 0), 1, heard, P[1].word), (
            (), ("a",), ("a", "c"), ("x",), ("x", "d"),
        ))
        self.assertEqual(tree((0, 1, 0), 1, heard, lambda row: "d"), (
            (), ("a",), ("a", "d"), ("a", "d", "p"), ("a", "d", "q"), ("x",), ("x", "d"),
        ))
        self.assertEqual(tree((0, 0, 0), 1, heard, P[1].word), ((), ("a",), ("a", "z"), ("x",)))
        self.assertEqual(tree((0,), 1, heard, P[1].word), ((), ("a",), ("x",)))
        self.assertEqual(tree((1, 1, 0), 1, heard, P[1].word), ((), ("d",), ("d", "d")))
        self.assertEqual(tree((0, 1, 0), 0, (), P[0].word), ((), ("a",)))
        self.assertEqual(tree((0, 1, 0), 1, (), P[1].word), ((),))

    def test_any_runs(self):
        chance = random.Random(61)
        widest = 0
        for _ in range(250):
            schedule = random_schedule(chance, 2, chance.randint(0, 12), 9)
            order = tuple(chance.randrange(2) for _ in range(chance.randint(1, 5)))
            houses = (some_table(chance, 4), some_table(chance, 4))
            numbers = range(len(schedule.letters))
            gone = tuple(number for number in numbers if chance.random() < 0.15)
            into = tuple((at, some_claims(chance, 4)) for at in numbers if at not in gone and chance.random() < 0.4)
            record = carried(schedule, houses, Votes(order), Faults(gone, into))
            for number, (house, _, beat) in enumerate(schedule.letters):
                heard = own_heard(schedule, record.ears, house, beat)
                self.assertEqual(record.sent[number], own_written(order, house, heard, houses[house].word))
            for house in (0, 1):
                heard = own_heard(schedule, record.ears, house, 1000)
                rows = tree(order, house, heard, houses[house].word)
                self.assertEqual(rows, own_tree(order, house, heard, houses[house].word))
                self.assertEqual(record.told[house], own_told(order, house, heard, houses[house].word))
                widest = max(widest, len(rows))
        self.assertGreater(widest, 12)

    def test_what_is_no_claim_thing_claims_nothing(self):
        for thing in NO_CLAIMS:
            heard = ((0, (thing,)), (2, ((((), "a"),),)), (4, (thing,)))
            self.assertEqual(tree((0, 1), 1, heard, P[1].word), ((), ("a",), ("a", "c")))
            self.assertEqual(Votes((0, 1)).tell(1, heard, P[1].word), ("a", "c"))
            self.assertEqual(tree((0, 1), 1, heard[:1], P[1].word), ((),))
            self.assertEqual(Votes((0, 1)).tell(1, heard[:1], P[1].word), ())
            self.assertEqual(Votes((0, 1)).write(1, heard[:1], P[1].word, 1), ())

    def test_claims_of_any_length_and_number(self):
        row = ("w" * 40,) * 400
        heard = ((0, ((((), "a"), (row, "b")),)), (2, (tuple(((f"{at:03}",), "v") for at in range(900)),)))
        self.assertEqual(tree((0,), 1, heard, P[1].word), ((), ("a",)))
        many = (((), "a"), *((("a", f"{at:03}"), "v") for at in range(900)))
        self.assertEqual(len(tree((0, 1, 0), 1, ((0, (many,)),), lambda row: "007")), 4)
        order = (0, 1) * 20
        told = tuple((("a",) * at, "a") for at in range(0, 40, 2))
        self.assertEqual(len(tree(order, 1, ((0, (told,)),), lambda row: "a")), 41)

    def test_the_house_asks_just_for_its_words(self):
        asked = []

        def ask(row):
            asked.append(row)
            return "o"

        tree((0, 1, 0), 1, ((0, ((((), "a"), (("a", "o"), "e")),)),), ask)
        self.assertEqual(set(asked), {("a",)})

    def test_errors_in_their_order(self):
        for order in NO_ORDERS:
            for house in (0, 2, None):
                with self.assertRaises(NoOrder):
                    tree(order, house, (), P[0].word)
            with self.assertRaises(NoOrder):
                Votes(order)
        for house in [2, -1, True, False, None, "0", [0], *odd_things()]:
            with self.assertRaises(NoHouse):
                tree((0, 1), house, (), P[0].word)

    def test_bad_houses(self):
        with self.assertRaises(BadHouse) as caught:
            carried(turns_line(3), (P[0], Voice(lambda row: None)), Votes((0, 1)), Faults((), ()))
        self.assertEqual(caught.exception.row, ("a",))


class VotesThatAreCounted(unittest.TestCase):
    def test_example(self):
        faults = Faults((), ((0, (((), "x"),)),))
        self.assertEqual(carried(turns_line(5), P, Votes((0,)), faults).told, (("a",), ("a",)))
        self.assertEqual(Votes((0, 1)).order, (0, 1))

    def claims(self, *words):
        return tuple((at, (((((), word),)),)) for at, word in enumerate(words))

    def test_the_most_and_of_several_the_least(self):
        for words, told in [
            ("a", "a"), ("ab", "a"), ("ba", "a"), ("bba", "b"), ("bab", "b"), ("abcc", "c"), ("bbcca", "b"),
            (("", "a"), ""), (("B", "a"), "B"), (("b", "bb", "a", "bb"), "bb"),
        ]:
            self.assertEqual(Votes((0,)).tell(1, self.claims(*words), P[1].word), (told,))

    def test_it_ends_where_none_is_claimed(self):
        heard = self.claims("a", "b", "b")
        self.assertEqual(Votes((0, 0, 1)).tell(1, heard, P[1].word), ("b",))
        self.assertEqual(Votes((0, 1, 0)).tell(1, heard, P[1].word), ("b", "d"))
        self.assertEqual(Votes((1, 0)).tell(1, heard, P[1].word), ("d",))
        self.assertEqual(Votes((1, 1)).tell(1, (), P[1].word), ("d", "d"))
        self.assertEqual(Votes((0,)).tell(1, (), P[1].word), ())

    def test_what_it_writes(self):
        self.assertEqual(Votes((0, 1, 0)).write(0, (), P[0].word, 0), (((), "a"),))
        self.assertEqual(Votes((1, 0)).write(0, (), P[0].word, 0), ())
        heard = ((1, (((("a",), "c"),),)), (3, (((("a",), "e"),),)))
        self.assertEqual(Votes((0, 1, 0)).write(0, heard, P[0].word, 4), (
            ((), "a"), (("a", "c"), "b"), (("a", "e"), "b"),
        ))

    def right_for_both(self, schedule, order, houses, faults):
        row = talk(houses, order)
        record = carried(schedule, houses, Votes(order), faults)
        self.assertEqual(record.told, (row, row))
        return record

    def test_the_fact_over_all_lots(self):
        chance = random.Random(62)
        for words, lost, turned in [(1, 1, 0), (2, 1, 0), (1, 0, 1), (2, 0, 1), (3, 0, 1), (3, 2, 0), (2, 1, 1), (1, 1, 1)]:
            order = by_turns(words)
            for schedule in [turns_line(least_turns(words, lost, turned)), both_line(least_both(words, lost, turned))]:
                numbers = range(len(schedule.letters))
                for gone in itertools.combinations(numbers, lost):
                    rest = [number for number in numbers if number not in gone]
                    for bent in itertools.combinations(rest, turned):
                        houses = (some_table(chance, words), some_table(chance, words))
                        into = tuple((number, some_claims(chance, words)) for number in bent)
                        self.right_for_both(schedule, order, houses, Faults(gone, into))

    def test_the_fact_over_longer_lines(self):
        chance = random.Random(63)
        for _ in range(60):
            words, lost, turned = chance.randint(1, 12), chance.randint(0, 4), chance.randint(0, 4)
            order = by_turns(words)
            for schedule in [turns_line(least_turns(words, lost, turned)), both_line(least_both(words, lost, turned))]:
                numbers = chance.sample(range(len(schedule.letters)), lost + turned)
                into = tuple((number, some_claims(chance, 5)) for number in sorted(numbers[lost:]))
                faults = Faults(tuple(sorted(numbers[:lost])), into)
                record = self.right_for_both(schedule, order, (some_table(chance, 4), some_table(chance, 4)), faults)
                self.check_trees(schedule, order, record, turned)

    def check_trees(self, schedule, order, record, turned):
        """How many rows the trees have of each number of words."""
        for house in (0, 1):
            heard = own_heard(schedule, record.ears, house, 1000)
            words = dict(pair for number, letter in enumerate(schedule.letters) if letter[0] == house
                         for pair in record.sent[number])
            rows = tree(order, house, heard, lambda row: words.get(row, "a"))
            for many in range(len(order) + 1):
                others = [owner for owner in order[:many] if owner != house]
                self.assertLessEqual(len([row for row in rows if len(row) == many]), (turned + 1) ** len(others))

    def test_forty_words(self):
        chance = random.Random(64)
        houses = (some_table(chance, 5), some_table(chance, 5))
        self.right_for_both(turns_line(60), by_turns(40), houses, Faults((5, 10, 40), tuple((at, None) for at in (7, 8, 20))))


if __name__ == "__main__":
    unittest.main()
