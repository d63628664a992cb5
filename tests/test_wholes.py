"""7.1 to 7.3: states, Whole, what fits, what is told and what is sure."""

import random
import unittest
from math import comb

from tests.odd import nested_tuple, odd_things
from tests.own import lots, own_heard, random_schedule, same
from tests.own_states import Judge, is_own_thing, states_of_record
from tests.test_votes import some_table
from turnedtalk.bars import bar, by_turns, least_turns
from turnedtalk.errors import BadHouse, NoHouse, NoLetter, NoLetters, NoNumber, NoOrder, NoState, TooMany
from turnedtalk.faults import Faults, Hearing
from turnedtalk.houses import Table, Voice, talk
from turnedtalk.records import carried, heard
from turnedtalk.schedules import Schedule, both_line, net_schedule, turns_line
from turnedtalk.wholes import Whole, fewest_turned, fits, is_state, state_of, sure, told_by

P = (Table((((), "a"),), "b"), Table(((("a",), "c"),), "d"))
NONE = Faults((), ())
ORDER = (0, 1, 0)
LINE = turns_line(4)
NO_ORDERS = [(), (2,), (0, -1), (True,), [0], [], (0,) * 41, None, 0, "0", {}, (0, None), *odd_things()]
NO_HOUSES = [2, -1, True, False, None, "0", [0], (0,), {}, 10 ** 20 - 1, *odd_things()]
NO_COUNTS = [-1, 9, 10 ** 20 - 1, True, False, None, "0", b"0", [0], (0,), {}, (), LINE, *odd_things()]
NO_LOTS = [(4,), (1, 0), (0, 0), (True,), [], [0], None, 0, "", {}, (-1,), *odd_things()]

# the states of houses that tell 'a', 'c', 'b', letter by letter over LINE
S0 = (0, (), (((), "a"),))
S1 = (1, ((0, (S0,)),), ((("a",), "c"),))
S2 = (0, ((1, (S1,)),), (((), "a"), (("a", "c"), "b")))
S3 = (1, ((0, (S0,)), (2, (S2,))), ((("a",), "c"),))
LAST = (0, ((1, (S1,)), (3, (S3,))), (((), "a"), (("a", "c"), "b")))


def bent_leaf(chance, leaf):
    """What a leaf, or a part that is taken for one, is changed into."""
    if leaf in (0, 1) and type(leaf) is int:
        return chance.choice([bool(leaf), 1 - leaf, 2])
    if type(leaf) is str:
        return chance.choice(["a", "b", "", "zz"])
    return chance.choice([None, 0, True, (), "a", ((),)])


def bent(chance, thing):
    """The thing with one part changed, at any depth."""
    if type(thing) is not tuple or not thing or chance.random() < 0.07:
        return bent_leaf(chance, thing)
    at = chance.randrange(len(thing))
    how = chance.random()
    if how < 0.05:
        return thing[:at] + thing[at + 1:]
    if how < 0.1:
        return thing[:at] + (thing[at],) + thing[at:]
    return thing[:at] + (bent(chance, thing[at]),) + thing[at + 1:]


def one_part_changed(thing):
    """All things that come of it by one change, at any depth."""
    if type(thing) is int:
        return [thing + 1, thing - 1, str(thing), (thing,), *([bool(thing)] if thing in (0, 1) else [])]
    if type(thing) is str:
        return [thing + "x", thing + "\n", thing * 41 if thing else "x" * 41, None, (thing,)]
    found = [None, (thing,), thing + ((),), *([()] if thing else [])]
    for at, part in enumerate(thing):
        found += [thing[:at] + thing[at + 1:], thing[:at] + (part,) + thing[at:]]
        found += [thing[:at] + (changed,) + thing[at + 1:] for changed in one_part_changed(part)]
    return found


class Case:
    """A run of Whole with chosen faults, and a Judge of its states."""

    def __init__(self, chance, letters=8):
        lines = [turns_line(chance.randint(0, 8)), both_line(chance.randint(0, 4))]
        nets = [random_schedule(chance, chance.randint(2, 4), chance.randint(0, letters), chance.randint(2, 8))]
        self.schedule = chance.choice(lines + nets * 3)
        many = self.schedule.many
        self.letters = range(len(self.schedule.letters))
        self.order = tuple(chance.randrange(many) for _ in range(chance.randint(1, 4)))
        self.lost, self.turned = chance.randint(0, 2), chance.randint(0, 2)
        self.manner = Whole(self.schedule, self.order, self.lost, self.turned)
        self.houses = tuple(some_table(chance, 4) for _ in range(many))
        others = tuple(some_table(chance, 4) for _ in range(many))
        self.pool = []
        for houses in (self.houses, others):
            self.pool += carried(self.schedule, houses, self.manner, NONE).sent
        self.record = carried(self.schedule, self.houses, self.manner, self.turner(chance))
        self.judge = Judge(self.schedule, self.order)

    def turner(self, chance):
        gone = tuple(number for number in self.letters if chance.random() < 0.12)
        into = {number: self.into(chance) for number in self.letters if chance.random() < 0.25}
        if chance.random() < 0.3:
            seed = chance.random()
            return Hearing(lambda letter, thing: () if letter in gone else (
                bent(random.Random(seed + letter), thing) if letter in into else thing,))
        return Faults(gone, tuple((number, into[number]) for number in sorted(into) if number not in gone))

    def into(self, chance):
        if self.pool and chance.random() < 0.5:
            return chance.choice(self.pool)
        if self.pool and chance.random() < 0.8:
            return bent(chance, chance.choice(self.pool))
        return chance.choice([None, (), 0, "a", (0, (), ()), (1, (), ())])

    def states(self):
        return states_of_record(self.schedule, self.order, self.record, self.houses)


class States(unittest.TestCase):
    def test_of_a_plain_run(self):
        record = carried(LINE, P, Whole(LINE, ORDER, 0, 0), NONE)
        self.assertEqual(repr(record.sent), repr((S0, S1, S2, S3)))
        self.assertEqual(record.told, (("a", "c", "b"), ("a", "c", "b")))
        self.assertEqual(state_of(LINE, ORDER, 0, heard(LINE, record, 0, 1000), P[0].word), LAST)
        for letter, state in enumerate(record.sent):
            for other in range(4):
                self.assertIs(is_state(LINE, ORDER, other, state), other == letter)

    def test_of_any_runs(self):
        chance = random.Random(71)
        right = 0
        for _ in range(120):
            case = Case(chance)
            schedule, record = case.schedule, case.record
            for number, (house, _, beat) in enumerate(schedule.letters):
                seen = own_heard(schedule, record.ears, house, beat)
                state = case.judge.state(house, seen, case.houses[house].word)
                self.assertTrue(same(record.sent[number], state))
                self.assertTrue(same(state_of(schedule, case.order, house, seen, case.houses[house].word), state))
                self.assertIs(is_state(schedule, case.order, number, state), True)
                for thing in [*[ear[0] for ear in record.ears if ear], *case.pool]:
                    judged = case.judge.is_state(number, thing)
                    self.assertIs(is_state(schedule, case.order, number, thing), judged)
                    right += judged
        self.assertGreater(right, 500)

    def test_one_part_changed(self):
        judge = Judge(LINE, ORDER)
        right = 0
        for letter, state in enumerate((S0, S1, S2, S3)):
            for thing in one_part_changed(state):
                judged = judge.is_state(letter, thing)
                self.assertIs(is_state(LINE, ORDER, letter, thing), judged, thing)
                right += judged
        self.assertGreater(right, 20)

    def test_other_words_may_be_answered_and_anything_be_heard(self):
        right = [
            (1, (0, (), (((), "z"),))),
            (1, (1, ((0, ()),), ())),
            (1, (1, ((0, (None,)),), ())),
            (1, (1, ((0, (S1,)),), ())),
            (1, (1, ((0, ((0, (), ()),)),), ())),
            (1, (1, ((0, ((0, (), (((), "z"),)),)),), ((("z",), ""),))),
            (3, (1, ((0, ()), (2, (S2,))), ((("a",), "c"),))),
            (3, (1, ((0, ((0, (), (((), "z"),)),)), (2, (S2,))), ((("a",), "c"), (("z",), "e")))),
        ]
        for letter, thing in right[1:]:
            self.assertIs(is_state(LINE, ORDER, letter, thing), True, thing)
        self.assertIs(is_state(LINE, ORDER, 0, right[0][1]), True)
        wrong = [
            (1, (1, ((0, (None,)),), ((("a",), "c"),))),
            (1, (1, ((0, (S0,)),), ())),
            (1, (1, ((0, (S0,)),), ((("a",), "c"), (("b",), "c")))),
            (1, (1, ((0, (S0,)),), ((("b",), "c"),))),
            (1, (1, (), ())),
            (1, (1, ((0, ([],)),), ())),
            (1, (1, ((0, (b"",)),), ())),
            (1, (1, ((0, (P[0],)),), ())),
            (1, (1, ((0, (None, None)),), ())),
            (1, (1, ((0, None),), ())),
            (1, (1, ((0, ()), (2, ())), ())),
            (1, (0, ((0, ()),), ())),
            (0, (0, (), ())),
            (0, (0, (), (((), "a"), (("a", "c"), "b")))),
            (0, (0, (), (((), "a" * 41),))),
            (0, (0, (), [((), "a")])),
            (0, (0, [], (((), "a"),))),
            (0, [0, (), (((), "a"),)]),
            (0, (False, (), (((), "a"),))),
        ]
        for letter, thing in wrong:
            self.assertIs(is_state(LINE, ORDER, letter, thing), False, thing)

    def test_a_beat_is_heard_whole(self):
        net = Schedule(3, ((0, 2, 1), (1, 2, 1), (2, 0, 1), (2, 0, 2)))
        self.assertIs(is_state(net, (2,), 2, (2, (), (((), "w"),))), True)
        self.assertIs(is_state(net, (2,), 3, (2, ((0, ()), (1, ())), (((), "w"),))), True)
        self.assertIs(is_state(net, (2,), 3, (2, ((0, ()),), (((), "w"),))), False)
        self.assertEqual(told_by(net, (2,), 0, (2, (), (((), "w"),)), ()), ("w",))
        with self.assertRaises(NoState):
            told_by(net, (2,), 0, (2, ((0, ()),), (((), "w"),)), ())
        self.assertEqual(told_by(net, (2,), 2, (2, ((0, ()), (1, ())), (((), "w"),)), ()), ("w",))

    def test_things_as_deep_as_they_may_be(self):
        deep = Whole(turns_line(12), by_turns(6), 1, 1)
        record = carried(turns_line(12), P, deep, Faults((), ((3, nested_tuple(300)),)))
        self.assertEqual(record.told[0], talk(P, by_turns(6)))
        self.assertIs(is_state(LINE, ORDER, 1, (1, ((0, (nested_tuple(300),)),), ())), True)

    def test_heard_alike_also_in_kind_however_many_parts(self):
        # house 0 heard one wide thing, and tells of it twice
        schedule = Schedule(2, ((1, 0, 0), (0, 1, 1), (0, 1, 2)))
        for many in (0, 10, 6000, 20000):
            wide = (((0,),),) * many
            for leaf, other in [(1, 1), (1, True), (True, 1), (0, False)]:
                one, two = [(0, ((0, ((*wide, ((last,),)),)),), (((), "x"),)) for last in (leaf, other)]
                state = (1, ((1, (one,)), (2, (two,))), ())
                alike = type(leaf) is type(other)
                self.assertIs(fits(schedule, (0,), 0, state, (0,)), alike)
                self.assertEqual(told_by(schedule, (0,), 0, state, (0,)), ("x",) if alike else ())
                self.assertEqual(fewest_turned(schedule, (0,), 0, state), 1 if alike else 2)
                self.assertEqual(sure(schedule, (0,), 0, 1, state), ("x",) if alike else ())

    def test_many_letters(self):
        # what is written last has some hundred thousand parts
        for schedule, order, lost, turned in [(turns_line(22), by_turns(16), 1, 1), (both_line(13), by_turns(8), 0, 1)]:
            manner = Whole(schedule, order, lost, turned)
            row = talk(P, order)
            record = carried(schedule, P, manner, Faults((9,)[:lost], ((20, None),)))
            self.assertEqual(record.told, (row, row))
            state = state_of(schedule, order, 0, heard(schedule, record, 0, 1000), P[0].word)
            self.assertEqual(sure(schedule, order, lost, turned, state), row)
            self.assertIs(fits(schedule, order, lost, state, ()), False)
            self.assertIs(fits(schedule, order, lost, state, (20,)), True)

    def test_errors_in_their_order(self):
        for order in NO_ORDERS:
            with self.assertRaises(NoOrder):
                is_state(LINE, order, 9, S0)
            with self.assertRaises(NoOrder):
                state_of(LINE, order, 9, (), P[0].word)
        for letter in [4, -1, True, False, None, "0", [0], 10 ** 20 - 1, *odd_things()]:
            with self.assertRaises(NoLetter):
                is_state(LINE, ORDER, letter, S0)
        with self.assertRaises(NoLetter):
            is_state(Schedule(2, ()), ORDER, 0, S0)
        for house in NO_HOUSES:
            with self.assertRaises(NoHouse):
                state_of(LINE, ORDER, house, (), P[0].word)

    def test_odd_things_are_no_states(self):
        for thing in odd_things():
            before = repr(thing)
            for held in [thing, (thing, (), ()), (0, thing, ()), (0, (), thing), (0, (), (thing,)), (0, (), (((), thing),))]:
                self.assertIs(is_state(LINE, ORDER, 0, held), False)
            self.assertIs(is_state(LINE, ORDER, 1, (1, (thing,), ())), False)
            self.assertIs(is_state(LINE, ORDER, 1, (1, ((0, [thing]),), ())), False)
            self.assertIs(is_state(LINE, ORDER, 1, (1, ((0, (thing, thing)),), ())), False)
            self.assertIs(is_state(LINE, ORDER, 1, (1, ((0, (thing,)),), ())), is_own_thing(thing))
            self.assertEqual(repr(thing), before)

    def test_whole_asks_through_ask_alone(self):
        with self.assertRaises(BadHouse) as caught:
            carried(LINE, (P[0], Voice(lambda row: None)), Whole(LINE, ORDER, 0, 0), NONE)
        self.assertEqual(caught.exception.row, ("a",))


class Fits(unittest.TestCase):
    def test_of_a_plain_run(self):
        for state, told in [(S0, ("a",)), (S1, ("a", "c")), (S2, ("a", "c", "b")), (S3, ("a", "c", "b")), (LAST, ("a", "c", "b"))]:
            self.assertIs(fits(LINE, ORDER, 0, state, ()), True)
            self.assertEqual(told_by(LINE, ORDER, 0, state, ()), told)
            self.assertEqual(sure(LINE, ORDER, 0, 0, state), told)
            self.assertEqual(fewest_turned(LINE, ORDER, 0, state), 0)
        self.assertEqual(told_by(LINE, ORDER, 0, LAST, (1, 3)), ("a",))
        self.assertEqual(told_by(LINE, ORDER, 0, LAST, (1,)), ("a", "c", "b"))
        self.assertEqual(told_by(LINE, ORDER, 0, LAST, (0,)), ("a", "c", "b"))
        self.assertEqual(sure(LINE, ORDER, 0, 1, LAST), ("a", "c", "b"))
        self.assertEqual(sure(LINE, ORDER, 0, 1, S2), ("a",))
        self.assertEqual(sure(LINE, ORDER, 0, 2, LAST), ("a",))

    def test_what_does_not_fit(self):
        other = (0, ((1, (S1,)),), (((), "a"), (("a", "c"), "e")))
        lying = (0, (), (((), "z"),))
        cases = [
            # what was heard is no state
            ((0, ((1, (None,)),), (((), "a"),)), 0, 1),
            # what was heard of letter 0 is no state, nor is it what letter 2 tells of it
            ((1, ((0, (None,)), (2, (S2,))), ((("a",), "c"),)), 0, 2),
            # two states of a house answer a row unlike
            ((1, ((0, (S0,)), (2, ((0, ((1, (S1,)),), (((), "z"),)),))), ((("a",), "c"), (("z",), "d"))), 0, 1),
            # a letter was lost
            ((1, ((0, ()), (2, (S2,))), ((("a",), "c"),)), 0, None),
            ((1, ((0, ()), (2, (S2,))), ((("a",), "c"),)), 1, 1),
            # the own answers are others than a state of the house tells
            ((0, ((1, ((1, ((0, (lying,)),), ((("z",), "d"),)),)),), (((), "a"),)), 0, 1),
            # what was heard of letter 0 is not what letter 3 tells of it
            ((0, ((1, (S1,)), (3, ((1, ((0, ()), (2, (other,))), ((("a",), "c"),)),))), (((), "a"), (("a", "c"), "e"))), 1, 1),
        ]
        for state, lost, fewest in cases:
            self.assertEqual(fewest_turned(LINE, ORDER, lost, state), fewest)
            self.assertIs(fits(LINE, ORDER, lost, state, ()), False)
            self.assertEqual(told_by(LINE, ORDER, lost, state, ()), ())
            self.assertEqual(sure(LINE, ORDER, lost, 0, state), ())

    def test_lost_letters_of_the_lot_are_counted_too(self):
        state = (1, ((0, ()), (2, ())), ())
        for lot in [(), (0,), (0, 2), (0, 1, 2, 3)]:
            self.assertIs(fits(LINE, ORDER, 1, state, lot), False)
            self.assertIs(fits(LINE, ORDER, 2, state, lot), True)
        self.assertIsNone(fewest_turned(LINE, ORDER, 1, state))
        self.assertEqual(fewest_turned(LINE, ORDER, 2, state), 0)

    def test_equal_also_in_kind(self):
        # letter 2 tells that letter 1 was heard with a flag in it; what letter 3 tells was written with a number
        one, true = (1, ((0, ((9, 1),)),), ()), (1, ((0, ((9, True),)),), ())
        self.assertEqual(one, true)
        for first, second in [(one, one), (one, true), (true, one), (true, true)]:
            third = (1, ((0, ((9, 1),)), (2, ((0, ((1, (first,)),), (((), "a"),)),))), ((("a",), "c"),))
            state = (0, ((1, (second,)), (3, (third,))), (((), "a"), (("a", "c"), "b")))
            judge = Judge(LINE, ORDER)
            self.assertTrue(judge.is_any_state(state))
            for lot in lots(4, 4):
                self.assertIs(fits(LINE, ORDER, 0, state, lot), judge.fits(0, state, lot))
            self.assertIs(fits(LINE, ORDER, 0, state, (0,)), first is one and second is one)

    def test_any_runs_with_all_lots(self):
        chance = random.Random(72)
        seen = []
        for _ in range(110):
            case = Case(chance)
            schedule, order, judge = case.schedule, case.order, case.judge
            every = list(lots(len(case.letters), len(case.letters)))
            for state in chance.sample(case.states(), 2):
                for lot in chance.sample(every, min(len(every), 25)):
                    for lost in (0, case.lost):
                        judged = judge.fits(lost, state, lot)
                        self.assertIs(fits(schedule, order, lost, state, lot), judged)
                        self.assertEqual(told_by(schedule, order, lost, state, lot), judge.told_by(lost, state, lot))
                        seen.append(judged)
        self.assertGreater(seen.count(True), 1000)
        self.assertGreater(seen.count(False), 500)

    def test_sure_and_what_is_told_by_all_lots(self):
        chance = random.Random(73)
        fewest = []
        for _ in range(100):
            case = Case(chance, 7)
            schedule, order, judge = case.schedule, case.order, case.judge
            for state in chance.sample(case.states(), 2):
                expected, _ = judge.sure(case.lost, case.turned, state)
                self.assertEqual(sure(schedule, order, case.lost, case.turned, state), expected)
                if len(case.letters) < 8:
                    fewest.append(judge.fewest_turned(case.lost, state))
                    self.assertEqual(fewest_turned(schedule, order, case.lost, state), fewest[-1])
            for house in range(schedule.many):
                seen = own_heard(schedule, case.record.ears, house, 1000)
                state = judge.state(house, seen, case.houses[house].word)
                _, first = judge.sure(case.lost, case.turned, state)
                self.assertEqual(case.record.told[house], first)
        self.assertTrue({None, 0, 1, 2} <= set(fewest))

    def test_the_first_lot_that_fits_is_told(self):
        line, order = turns_line(3), (0,)
        # letter 2 tells that letter 1 was no state, and so must have been turned itself
        state = (1, ((0, (S0,)), (2, ((0, ((1, (None,)),), (((), "z"),)),))), ())
        self.assertEqual([lot for lot in lots(3, 1) if fits(line, order, 0, state, lot)], [(2,)])
        self.assertEqual(Whole(line, order, 0, 1).tell(1, state[1], None), ("a",))
        self.assertEqual(sure(line, order, 0, 1, state), ("a",))
        # either letter may have been turned, and (0,) stands ahead of the other lot
        state = (1, ((0, (S0,)), (2, ((0, ((1, ((1, ((0, (S0,)),), ()),)),), (((), "z"),)),))), ())
        self.assertEqual([lot for lot in lots(3, 1) if fits(line, order, 0, state, lot)], [(0,), (2,)])
        self.assertEqual(Whole(line, order, 0, 1).tell(1, state[1], None), ("z",))
        self.assertEqual(sure(line, order, 0, 1, state), ())
        both = Schedule(2, ((0, 1, 0), (0, 1, 1)))
        state = (1, ((0, (S0,)), (1, ((0, (), (((), "z"),)),))), ())
        self.assertEqual([lot for lot in lots(2, 2) if fits(both, order, 0, state, lot)], [(0,), (1,), (0, 1)])
        self.assertEqual(Whole(both, order, 0, 1).tell(1, state[1], None), ("z",))
        self.assertEqual(sure(both, order, 0, 1, state), ())

    def test_whole_tells_nothing_where_no_lot_fits(self):
        self.assertEqual(Whole(LINE, ORDER, 0, 0).tell(1, ((0, ()), (2, (S2,))), P[1].word), ())
        self.assertEqual(Whole(LINE, ORDER, 0, 1).tell(1, ((0, ()), (2, (S2,))), P[1].word), ())
        self.assertEqual(Whole(LINE, ORDER, 1, 0).tell(0, ((1, (None,)), (3, (None,))), P[0].word), ())


class Facts(unittest.TestCase):
    def faults(self, case, chance):
        """As many as there may be, of the worst kind that is at hand."""
        numbers = chance.sample(case.letters, min(len(case.letters), case.lost + case.turned))
        gone = sorted(numbers[:case.lost])
        return Faults(tuple(gone), tuple((number, case.into(chance)) for number in sorted(numbers[case.lost:])))

    def test_where_there_is_no_bar_whole_is_right(self):
        chance = random.Random(74)
        rights = 0
        for _ in range(500):
            case = Case(chance, 14)
            free = [
                goal for goal in range(case.schedule.many)
                if bar(case.schedule, case.order, goal, case.lost, case.turned) is None
            ]
            if not free or case.lost + case.turned == 0:
                continue
            row = talk(case.houses, case.order)
            for _ in range(3):
                record = carried(case.schedule, case.houses, case.manner, self.faults(case, chance))
                for goal in free:
                    self.assertEqual(record.told[goal], row)
                    state = case.judge.state(goal, heard(case.schedule, record, goal, 1000), case.houses[goal].word)
                    self.assertEqual(sure(case.schedule, case.order, case.lost, case.turned, state), row)
                    rights += goal not in set(case.order) or len(set(case.order)) > 1
        self.assertGreater(rights, 20)

    def test_right_over_lines(self):
        chance = random.Random(75)
        for words, lost, turned in [(1, 0, 1), (2, 1, 1), (3, 0, 1), (3, 1, 2), (4, 2, 1), (2, 0, 3)]:
            line, order = turns_line(least_turns(words, lost, turned)), by_turns(words)
            manner = Whole(line, order, lost, turned)
            for _ in range(6):
                houses = (some_table(chance, words), some_table(chance, words))
                others = (some_table(chance, words), some_table(chance, words))
                pool = carried(line, others, manner, NONE).sent + carried(line, houses, manner, NONE).sent
                numbers = chance.sample(range(len(line.letters)), lost + turned)
                into = [(at, chance.choice([pool[at], bent(chance, pool[at]), chance.choice(pool)])) for at in numbers[lost:]]
                faults = Faults(tuple(sorted(numbers[:lost])), tuple(sorted(into, key=lambda pair: pair[0])))
                row = talk(houses, order)
                self.assertEqual(carried(line, houses, manner, faults).told, (row, row))

    def test_what_is_sure_is_a_beginning_of_the_talk_and_never_gets_shorter(self):
        chance = random.Random(76)
        lengths = []
        for _ in range(250):
            case = Case(chance, 9)
            schedule, order = case.schedule, case.order
            row = talk(case.houses, order)
            record = carried(schedule, case.houses, case.manner, self.faults(case, chance))
            for house in range(schedule.many):
                ahead = 0
                for beat in sorted({0, 1000} | {letter[2] + 1 for letter in schedule.letters}):
                    state = state_of(schedule, order, house, heard(schedule, record, house, beat), case.houses[house].word)
                    found = sure(schedule, order, case.lost, case.turned, state)
                    self.assertEqual(found, row[:len(found)])
                    self.assertGreaterEqual(len(found), ahead)
                    ahead = len(found)
                lengths.append(ahead)
        self.assertGreater(len([one for one in lengths if one > 1]), 50)


class Errors(unittest.TestCase):
    STATES = [
        None, 0, True, "", (), [], {}, b"", (0, ()), [0, (), (((), "a"),)], (2, (), ()), (0, (), ()), (True, (), ()),
        (False, (), (((), "a"),)), (0, ((3, ()),), (((), "a"),)), (0, ((1, ()), (3, ()), (5, ())), (((), "a"),)),
        (0, [], (((), "a"),)), (0, (), [((), "a")]), (0, ((1, ([],)),), (((), "a"),)), (0, ((True, ()),), (((), "a"),)),
        (0, ((1, None),), (((), "a"),)), (0, None, (((), "a"),)), (0, 1, (((), "a"),)), ((0, (), (((), "a"),)),),
        (0, (), (((), "a"),), ()), (-1, (), ()), ("0", (), (((), "a"),)), (0, ((1, (P[0],)),), (((), "a"),)),
        (1, (), ((("a",), "c"),)), (0, (((1, ())),), (((), "a"), ((), "a"))), S1[:2], *odd_things(),
    ]
    CALLS = [
        lambda order, lost, state, lot: fits(LINE, order, lost, state, lot),
        lambda order, lost, state, lot: told_by(LINE, order, lost, state, lot),
    ]

    def test_fits_and_told_by(self):
        for call in self.CALLS:
            for order in NO_ORDERS:
                for rest in [(0, S0, ()), (9, None, None)]:
                    with self.assertRaises(NoOrder):
                        call(order, *rest)
            for lost in NO_COUNTS:
                for rest in [(S0, ()), (None, None)]:
                    with self.assertRaises(NoNumber):
                        call(ORDER, lost, *rest)
            for state in self.STATES:
                before = repr(state)
                for lot in [(), None]:
                    with self.assertRaises(NoState, msg=before[:80]):
                        call(ORDER, 0, state, lot)
                self.assertEqual(repr(state), before)
            for lot in NO_LOTS:
                with self.assertRaises(NoLetters):
                    call(ORDER, 0, S0, lot)

    def test_sure_and_fewest_turned(self):
        for order in NO_ORDERS:
            for lost, turned, state in [(0, 0, S0), (9, 9, None)]:
                with self.assertRaises(NoOrder):
                    sure(LINE, order, lost, turned, state)
                with self.assertRaises(NoOrder):
                    fewest_turned(LINE, order, lost, state)
        for count in NO_COUNTS:
            for state in [S0, None]:
                for lost, turned in [(count, 0), (0, count), (count, count)]:
                    with self.assertRaises(NoNumber):
                        sure(LINE, ORDER, lost, turned, state)
                with self.assertRaises(NoNumber):
                    fewest_turned(LINE, ORDER, count, state)
        for state in self.STATES:
            with self.assertRaises(NoState):
                sure(LINE, ORDER, 0, 0, state)
            with self.assertRaises(NoState):
                fewest_turned(LINE, ORDER, 0, state)

    def test_every_state_of_any_beat_is_one(self):
        for state in [S0, S1, S2, S3, LAST, (1, (), ()), (0, ((1, (None,)),), (((), "q"),))]:
            self.assertIs(type(fits(LINE, ORDER, 0, state, ())), bool)
        chance = random.Random(77)
        for _ in range(40):
            case = Case(chance)
            for state in case.states():
                fits(case.schedule, case.order, 0, state, ())

    def test_the_state_judged_as_by_an_own_account(self):
        judge = Judge(LINE, ORDER)
        seen = []
        for state in [S0, S1, S2, S3]:
            for thing in one_part_changed(state):
                try:
                    fits(LINE, ORDER, 0, thing, ())
                    seen.append(True)
                except NoState:
                    seen.append(False)
                self.assertIs(seen[-1], judge.is_any_state(thing), thing)
        self.assertGreater(seen.count(True), 20)

    def too_many(self, call):
        with self.assertRaises(TooMany) as caught:
            call()
        self.assertEqual(caught.exception.most, 200000)

    def test_too_many_lots(self):
        for letters in [17, 18, 20, 22, 25, 30, 45, 60]:
            line = turns_line(letters)
            state = (1, (), ())
            for turned in range(9):
                if sum(comb(letters, size) for size in range(turned + 1)) > 200000:
                    self.too_many(lambda: sure(line, (0,), 8, turned, state))
                    self.too_many(lambda: Whole(line, (0,), 0, turned))
                    with self.assertRaises(NoState):
                        sure(line, (0,), 8, turned, None)
                else:
                    self.assertEqual(sure(line, (0,), 8, turned, state), ())
            for lost in range(9):
                if sum(comb(letters, size) for size in range(lost + 4)) > 200000:
                    self.too_many(lambda: Whole(line, (0,), lost, 3))
                else:
                    Whole(line, (0,), lost, 3)
            if letters > 17:
                self.too_many(lambda: fewest_turned(line, (0,), 0, state))
                with self.assertRaises(NoState):
                    fewest_turned(line, (0,), 0, None)
            else:
                self.assertEqual(fewest_turned(line, (0,), 0, state), 0)

    def test_few_enough_lots_are_gone_through(self):
        line = turns_line(17)
        order = (0,)
        words = ["a", "b", "c", "d", "e", "f", "g", "h", "i"]
        # each letter that house 1 heard tells another word
        ears = tuple((2 * at, ((0, tuple((2 * k + 1, ()) for k in range(at)), (((), word),)),)) for at, word in enumerate(words))
        state = (1, ears, ())
        self.assertEqual(fewest_turned(line, order, 8, state), 8)
        self.assertIs(fits(line, order, 8, state, tuple(range(0, 16, 2))), True)
        self.assertEqual(sure(line, order, 8, 8, state), ())
        self.assertEqual(Whole(line, order, 8, 8).tell(1, ears, None), ("i",))

    def test_whole(self):
        for order in NO_ORDERS:
            with self.assertRaises(NoOrder):
                Whole(LINE, order, 9, 9)
        for count in NO_COUNTS:
            for lost, turned in [(count, 0), (0, count), (count, count)]:
                with self.assertRaises(NoNumber):
                    Whole(turns_line(60), ORDER, lost, turned)
        manner = Whole(LINE, ORDER, 2, 1)
        self.assertEqual((manner.schedule, manner.order, manner.lost, manner.turned), (LINE, ORDER, 2, 1))
        net = net_schedule(3, ((0, 1),), 1)
        with self.assertRaises(NoOrder):
            Whole(net, (3,), 0, 0)
        Whole(net, (2,), 8, 8)


if __name__ == "__main__":
    unittest.main()
