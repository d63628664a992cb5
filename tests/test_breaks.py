"""8.1: breaks."""

import itertools
import random
import unittest

from tests.odd import Foreign, nested_tuple, odd_things
from tests.own import own_run, random_schedule, same
from turnedtalk.bars import bar, by_turns, gets_over, least_both, least_turns
from turnedtalk.breaks import breaking, is_break
from turnedtalk.errors import BadLetter, NoBar, NoHouse, NoNumber, NoOrder, TooMany
from turnedtalk.faults import Faults, Hearing
from turnedtalk.houses import Table, Voice, talk
from turnedtalk.programs import Program
from turnedtalk.records import Hand, carried, lost, turned
from turnedtalk.schedules import Schedule, both_line, net_schedule, turns_line
from turnedtalk.votes import Votes
from turnedtalk.wholes import Whole

LINE = turns_line(4)
SILENT = Hand(lambda *told: None, lambda *told: ())
NO_ORDERS = [(), (2,), (0, -1), (True,), [0], [], (0,) * 41, None, 0, "0", {}, (0, None), *odd_things()]
NO_HOUSES = [2, -1, True, False, None, "0", [0], (0,), {}, 10 ** 20 - 1, *odd_things()]
NO_COUNTS = [-1, 9, 10 ** 20 - 1, True, False, None, "0", b"0", [0], (0,), {}, (), LINE, *odd_things()]


def all_heard(house, heard, ask, letter):
    """Writes all that it heard, and a word."""
    return (heard, ask(()))


def guesser(order, words):
    """A manner that asks from the beginning on behind all rows of these words."""
    def writing(house, heard, ask, letter):
        found = []
        for many, owner in enumerate(order):
            if owner == house:
                found += [ask(row) for row in itertools.product(words, repeat=many)]
        return (tuple(found), heard)

    return Hand(writing, lambda house, heard, ask: ())


def manners(schedule, order, lost_most, turned_most):
    found = [
        Whole(schedule, order, lost_most, turned_most), guesser(order, ("a", "b", "0")), Hand(all_heard, lambda *told: ()),
        SILENT,
    ]
    return [*found, Votes(order)] if schedule.many == 2 else found


def is_own_break(schedule, order, goal, lost_most, turned_most, manner, thing):
    """8.1, for what has the right kinds of parts."""
    houses, others, faults, other_faults = thing
    for one in (faults, other_faults):
        if len(one.lost) > lost_most or len(one.turned) > turned_most:
            return False
    if len(houses) != schedule.many or len(others) != schedule.many or not houses[goal] == others[goal]:
        return False
    ears = [own_run(schedule, houses, manner, faults)[1], own_run(schedule, others, manner, other_faults)[1]]
    to_goal = [number for number, letter in enumerate(schedule.letters) if letter[1] == goal]
    if any(not same(ears[0][number], ears[1][number]) for number in to_goal):
        return False
    return talk(houses, order) != talk(others, order)


class Breaking(unittest.TestCase):
    def check(self, schedule, order, goal, lost_most, turned_most, manner):
        found = breaking(schedule, order, goal, lost_most, turned_most, manner)
        self.assertIs(type(found), tuple)
        self.assertEqual([type(part) for part in found], [tuple, tuple, Faults, Faults])
        for house in (*found[0], *found[1]):
            self.assertIs(type(house), Table)
        self.assertTrue(is_own_break(schedule, order, goal, lost_most, turned_most, manner, found))
        self.assertIs(is_break(schedule, order, goal, lost_most, turned_most, manner, found), True)
        records = [carried(schedule, found[0], manner, found[2]), carried(schedule, found[1], manner, found[3])]
        for record in records:
            self.assertLessEqual(len(lost(record)), lost_most)
            self.assertLessEqual(len(turned(record)), turned_most)
        # so the goal tells one of the talks wrongly
        talks = [talk(found[0], order), talk(found[1], order)]
        told = [record.told[goal] for record in records]
        self.assertTrue(same(told[0], told[1]))
        self.assertNotEqual(talks, told)

    def test_any_schedules_and_manners(self):
        chance = random.Random(81)
        for _ in range(250):
            many = chance.randint(2, 4)
            schedule = random_schedule(chance, many, chance.randint(0, 9), chance.randint(1, 8))
            order = tuple(chance.randrange(many) for _ in range(chance.randint(1, 4)))
            goal = chance.randrange(many)
            lost_most, turned_most = chance.randint(0, 2), chance.randint(0, 2)
            free = bar(schedule, order, goal, lost_most, turned_most) is None
            for manner in manners(schedule, order, lost_most, turned_most):
                if free:
                    with self.assertRaises(NoBar):
                        breaking(schedule, order, goal, lost_most, turned_most, manner)
                else:
                    self.check(schedule, order, goal, lost_most, turned_most, manner)

    def test_lines_that_are_one_letter_too_short(self):
        for words, lost_most, turned_most in [(1, 0, 1), (2, 0, 1), (3, 1, 0), (3, 1, 1), (4, 0, 1), (2, 1, 2)]:
            order = by_turns(words)
            lines = [
                turns_line(least_turns(words, lost_most, turned_most) - 1),
                both_line(least_both(words, lost_most, turned_most) - 1),
            ]
            for line in lines:
                broken = 0
                for goal in (0, 1):
                    if bar(line, order, goal, lost_most, turned_most) is not None:
                        broken += 1
                        for manner in manners(line, order, lost_most, turned_most):
                            self.check(line, order, goal, lost_most, turned_most, manner)
                self.assertGreater(broken, 0)

    def test_who_guesses_the_words(self):
        # word 1 comes too late, but house 1 asks for it behind all rows that might be
        for words in [("a",), ("a", "b"), ("a", "b", "0", "1", "2"), tuple(str(at) for at in range(300)) + ("a", "b")]:
            manner = guesser((0, 1), words)
            for line in [turns_line(1), turns_line(2), Schedule(2, ((1, 0, 0), (0, 1, 1)))]:
                self.check(line, (0, 1), 0, 1, 0, manner)
        for words in [("a",), ("a", "b"), ("a", "b", "0", "1", "2")]:
            for order in [(0, 1, 0, 1), (0, 1, 1, 0), (1, 0, 1, 0, 1), (0, 0, 1, 0)]:
                manner = guesser(order, words)
                for line in [turns_line(3), turns_line(6), both_line(3)]:
                    for goal in (0, 1):
                        if bar(line, order, goal, 1, 0) is not None:
                            self.check(line, order, goal, 1, 0, manner)

    def test_who_guesses_more_behind_what_it_heard(self):
        # the own word behind the own row, and behind it all of a few words
        def writing(house, heard, ask, letter):
            rows = [()]
            for row in rows:
                if len(row) < 4:
                    rows += [row + (word,) for word in {"a", "b", "0", ask(row)}]
            return (tuple(ask(row) for row in rows), heard)

        manner = Hand(writing, lambda *told: ())
        for order in [(0, 1, 0), (1, 0, 1, 0)]:
            for line in [turns_line(2), turns_line(4), both_line(2)]:
                for goal in (0, 1):
                    if bar(line, order, goal, 1, 0) is not None:
                        self.check(line, order, goal, 1, 0, manner)

    def test_who_guesses_behind_what_it_heard_of_somebody_else(self):
        def writing(house, heard, ask, letter):
            return tuple(ask((word,)) for word in ("a", "0", "1")) if heard else ask(())

        manner = Hand(writing, lambda *told: ())
        self.check(Schedule(3, ((2, 1, 0), (1, 0, 1), (0, 1, 2))), (0, 1), 0, 0, 0, manner)

    def test_houses_between_that_know_the_word(self):
        # the word comes to house 1 by three letters, and goes on by two, which must be the ones behind
        schedule = Schedule(3, ((0, 1, 0), (0, 1, 1), (0, 1, 2), (1, 2, 3), (1, 2, 4)))
        self.assertEqual(bar(schedule, (0,), 2, 0, 1), (0, (), (3, 4)))
        for manner in manners(schedule, (0,), 0, 1):
            self.check(schedule, (0,), 2, 0, 1, manner)

    def test_more_houses(self):
        ring = net_schedule(4, ((0, 1), (0, 3), (1, 2), (2, 3)), 3)
        for order, goal, lost_most, turned_most in [((0,), 2, 2, 1), ((0, 2), 1, 0, 2), ((3, 1, 2), 0, 3, 0), ((0, 1), 3, 1, 2)]:
            self.assertIsNotNone(bar(ring, order, goal, lost_most, turned_most))
            for manner in manners(ring, order, lost_most, turned_most):
                self.check(ring, order, goal, lost_most, turned_most, manner)

    def test_sixty_letters(self):
        line = Schedule(2, tuple((0, 1, at) for at in range(60)))
        self.assertTrue(gets_over(line, (0,), 1, 1))
        for order, goal in [((1,), 0), ((0, 1), 0), ((0, 0, 1), 0)]:
            for manner in [Whole(line, order, 1, 1), Votes(order), SILENT]:
                self.check(line, order, goal, 1, 1, manner)
        votes = Votes(by_turns(40))
        self.check(turns_line(43), by_turns(40), 0, 2, 0, votes)

    def test_no_letters_at_all(self):
        for manner in manners(Schedule(2, ()), (0,), 0, 0):
            self.check(Schedule(2, ()), (0,), 1, 0, 0, manner)
            self.check(Schedule(2, ()), (0, 1), 0, 0, 0, manner)

    def test_errors_in_their_order(self):
        for order in NO_ORDERS:
            with self.assertRaises(NoOrder):
                breaking(LINE, order, None, None, None, SILENT)
        for goal in NO_HOUSES:
            with self.assertRaises(NoHouse):
                breaking(LINE, (0, 1), goal, None, None, SILENT)
        for count in NO_COUNTS:
            for lost_most, turned_most in [(count, 0), (0, count), (count, count)]:
                with self.assertRaises(NoNumber):
                    breaking(turns_line(60), (0, 1), 0, lost_most, turned_most, SILENT)
        bad = Hand(lambda *told: [], lambda *told: ())
        with self.assertRaises(TooMany) as caught:
            breaking(turns_line(60), (0,), 1, 8, 8, bad)
        self.assertEqual(caught.exception.most, 200000)
        with self.assertRaises(NoBar):
            breaking(turns_line(5), (0,), 1, 0, 1, bad)
        with self.assertRaises(NoBar):
            breaking(LINE, (0, 0), 0, 8, 0, bad)
        with self.assertRaises(BadLetter) as caught:
            breaking(LINE, (0,), 1, 0, 1, bad)
        self.assertEqual(caught.exception.letter, 0)

    def test_bad_letter(self):
        for thing in [[], {}, b"", (1, [2]), object(), Foreign(), Faults((), ()), nested_tuple(20, [])]:
            for at in range(4):
                manner = Hand(lambda house, heard, ask, letter: thing if letter == at else None, lambda *told: ())
                for order, goal in [((0,), 1), ((0, 1), 0), ((1,), 0)]:
                    with self.assertRaises(BadLetter) as caught:
                        breaking(LINE, order, goal, 2, 0, manner)
                    self.assertEqual(caught.exception.letter, at)


class IsBreak(unittest.TestCase):
    # houses 0 and 1, of which house 1 hears two letters of two that tell the word, each time one of them turned
    HOUSES = (Table((), "x"), Table((), "u"))
    OTHERS = (Table((), "y"), Table((), "u"))
    MANNER = Hand(lambda house, heard, ask, letter: ask(()), lambda *told: ())
    FAULTS = Faults((), ((0, "y"),))
    OTHER_FAULTS = Faults((), ((2, "x"),))

    def judge(self, thing, turned_most=1, lost_most=0, schedule=LINE, order=(0,), goal=1, manner=None):
        return is_break(schedule, order, goal, lost_most, turned_most, manner or self.MANNER, thing)

    def test_a_right_one(self):
        right = (self.HOUSES, self.OTHERS, self.FAULTS, self.OTHER_FAULTS)
        self.assertIs(self.judge(right), True)
        self.assertIs(self.judge(right, 2, 1), True)
        self.assertIs(self.judge((self.OTHERS, self.HOUSES, self.OTHER_FAULTS, self.FAULTS)), True)
        # letters to the other house may be heard unlike, and numbers of no letter do nothing
        more = Faults((3,), ((0, "y"), (1, None), (50, None)))
        self.assertIs(self.judge((self.HOUSES, self.OTHERS, more, self.OTHER_FAULTS), 3, 1), True)
        gone = Faults((0, 2), ())
        self.assertIs(self.judge((self.HOUSES, self.OTHERS, gone, gone), 0, 2), True)

    def test_one_part_changed(self):
        none = Faults((), ())
        wrong = [
            (self.HOUSES, self.HOUSES, none, none),
            (self.HOUSES, self.OTHERS, none, self.OTHER_FAULTS),
            (self.HOUSES, self.OTHERS, self.FAULTS, none),
            (self.HOUSES, self.OTHERS, self.FAULTS, self.FAULTS),
            (self.OTHERS, self.HOUSES, self.FAULTS, self.OTHER_FAULTS),
            (self.HOUSES, self.OTHERS, Faults((), ((0, "y"), (1, None))), self.OTHER_FAULTS),
            (self.HOUSES, self.OTHERS, self.FAULTS, Faults((), ((2, "x"), (59, None)))),
            (self.HOUSES, self.OTHERS, Faults((1,), ((0, "y"),)), self.OTHER_FAULTS),
            (self.HOUSES, self.OTHERS, self.FAULTS, Faults((55,), ((2, "x"),))),
            (self.HOUSES, (self.OTHERS[0], Table((), "v")), self.FAULTS, self.OTHER_FAULTS),
            (self.HOUSES, (self.OTHERS[0], Table((((), "u"),), "u")), self.FAULTS, self.OTHER_FAULTS),
            (self.HOUSES, (Table((((), "x"),), "y"), self.OTHERS[1]), self.FAULTS, self.OTHER_FAULTS),
            (self.HOUSES, self.OTHERS, Faults((), ((0, "z"),)), self.OTHER_FAULTS),
            (self.HOUSES, self.OTHERS, Faults((), ((2, "y"),)), self.OTHER_FAULTS),
        ]
        for thing in wrong:
            self.assertIs(self.judge(thing), False)

    def test_kinds_of_parts(self):
        right = [self.HOUSES, self.OTHERS, self.FAULTS, self.OTHER_FAULTS]
        self.assertIs(self.judge(right), False)
        self.assertIs(self.judge(tuple(right[:3])), False)
        self.assertIs(self.judge((*right, None)), False)
        self.assertIs(self.judge((tuple(right),)), False)
        x, y, u = Table((), "x"), Table((), "y"), Table((), "u")
        strange = [
            [x, u], (x,), (x, u, u), (x, Voice(lambda row: "u")), (Voice(lambda row: "x"), u), (x, Program(())), (x, None), x,
            None, (), "xu", {0: x, 1: u}, (x, (u,)), (Table, u), *odd_things(),
        ]
        for thing in strange:
            self.assertIs(self.judge((thing, (y, u), *right[2:])), False)
            self.assertIs(self.judge(((x, u), thing, *right[2:])), False)
            self.assertIs(self.judge((thing, thing, *right[2:])), False)
        strange = [((), ((0, "y"),)), Hearing(lambda *told: ("y",)), None, (), [], *odd_things()]
        for thing in strange:
            if not isinstance(thing, Faults):
                self.assertIs(self.judge((*right[:2], thing, right[3])), False)
                self.assertIs(self.judge((*right[:3], thing)), False)
        for thing in odd_things():
            before = repr(thing)
            self.assertIs(self.judge(thing), False)
            self.assertEqual(repr(thing), before)

    def test_equal_also_in_kind(self):
        def writing(house, heard, ask, letter):
            return ((), (1 if ask(()) == "x" else True,))

        manner = Hand(writing, lambda *told: ())
        none = Faults((), ())
        self.assertIs(self.judge((self.HOUSES, self.OTHERS, none, none), manner=manner), False)
        into = Faults((), ((0, ((), (True,))), (2, ((), (True,)))))
        self.assertIs(self.judge((self.HOUSES, self.OTHERS, into, none), 2, manner=manner), True)
        into = Faults((), ((0, ((), (True,))), (2, ((), (1,)))))
        self.assertIs(self.judge((self.HOUSES, self.OTHERS, into, none), 2, manner=manner), False)

    def test_the_breaks_that_breaking_tells_with_one_part_changed(self):
        order = (0, 1, 0)
        for line, goal, lost_most, turned_most in [(turns_line(5), 0, 1, 0), (turns_line(6), 0, 0, 1), (both_line(4), 1, 0, 1)]:
            for manner in [Whole(line, order, lost_most, turned_most), Votes(order), Hand(all_heard, lambda *told: ())]:
                if bar(line, order, goal, lost_most, turned_most) is None:
                    continue
                found = breaking(line, order, goal, lost_most, turned_most, manner)
                changed = [
                    (found[1], found[0], found[2], found[3]), (found[0], found[0], found[2], found[3]),
                    (found[0], found[1], Faults((), ()), found[3]), (found[0], found[1], found[2], Faults((), ())),
                    (found[0], found[1], Faults(found[2].lost, ()), found[3]),
                    (found[0][::-1], found[1], found[2], found[3]), (found[0], found[1], found[3], found[2]),
                ]
                for thing in changed:
                    expected = is_own_break(line, order, goal, lost_most, turned_most, manner, thing)
                    self.assertIs(is_break(line, order, goal, lost_most, turned_most, manner, thing), expected)
                for other_goal in (0, 1):
                    for more in [(0, 0), (lost_most, turned_most), (2, 2)]:
                        expected = is_own_break(line, order, other_goal, *more, manner, found)
                        self.assertIs(is_break(line, order, other_goal, *more, manner, found), expected)

    def test_errors_in_their_order(self):
        bad = Hand(lambda *told: [], lambda *told: ())
        right = (self.HOUSES, self.OTHERS, self.FAULTS, self.OTHER_FAULTS)
        for thing in [right, None]:
            for order in NO_ORDERS:
                with self.assertRaises(NoOrder):
                    is_break(LINE, order, None, None, None, bad, thing)
            for goal in NO_HOUSES:
                with self.assertRaises(NoHouse):
                    is_break(LINE, (0, 1), goal, None, None, bad, thing)
            for count in NO_COUNTS:
                for lost_most, turned_most in [(count, 0), (0, count), (count, count)]:
                    with self.assertRaises(NoNumber):
                        is_break(LINE, (0, 1), 0, lost_most, turned_most, bad, thing)
        with self.assertRaises(BadLetter) as caught:
            self.judge(right, manner=bad)
        self.assertEqual(caught.exception.letter, 0)

    def test_runs_are_made_only_where_all_else_holds(self):
        bad = Hand(lambda *told: [], lambda *told: ())
        none = Faults((), ())
        wrong = [
            (self.HOUSES, self.HOUSES, none, none), (self.HOUSES, self.OTHERS, Faults((1,), ()), none),
            (self.HOUSES, (self.OTHERS[0], Table((), "v")), none, none), (self.HOUSES, self.OTHERS, none, None),
            (self.HOUSES, self.OTHERS, none, Faults((), ((50, None), (51, None)))), None,
        ]
        for thing in wrong:
            self.assertIs(self.judge(thing, manner=bad), False)
        # it is no bar that is asked for, and no number of lots is too many
        long = turns_line(60)
        self.assertIs(is_break(long, (0,), 1, 8, 8, bad, None), False)
        with self.assertRaises(BadLetter):
            is_break(long, (0,), 1, 8, 8, bad, (self.HOUSES, self.OTHERS, none, none))

    def test_the_bad_letter_of_the_first_run(self):
        def writing(house, heard, ask, letter):
            return [] if letter == {"x": 2, "y": 0}[ask(())] else None

        manner = Hand(writing, lambda *told: ())
        none = Faults((), ())
        houses, others = (self.HOUSES[0], Table((), "x")), (self.OTHERS[0], Table((), "x"))
        with self.assertRaises(BadLetter) as caught:
            self.judge((houses, others, none, none), manner=manner)
        self.assertEqual(caught.exception.letter, 2)
        with self.assertRaises(BadLetter) as caught:
            self.judge((others, houses, none, none), manner=manner)
        self.assertEqual(caught.exception.letter, 0)


if __name__ == "__main__":
    unittest.main()
