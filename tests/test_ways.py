"""5.1: apart and meeting."""

import itertools
import random
import unittest

from tests.odd import odd_things
from tests.own import random_schedule
from turnedtalk.errors import NoHouse, NoOther
from turnedtalk.schedules import Schedule, both_line, net_schedule, turns_line
from turnedtalk.ways import apart, are_apart, is_meeting, meeting

# from 0 to 3: the shortest way, 2 3, shares a letter with each of two others, 0 1 3 and 2 4 5
CROSSED = Schedule(6, ((0, 1, 0), (1, 2, 1), (0, 4, 1), (4, 2, 2), (4, 5, 3), (2, 3, 4), (5, 3, 5)))
SHORT_BARS = Schedule(4, ((0, 1, 0), (0, 2, 0), (2, 1, 1), (1, 3, 2), (2, 3, 3)))


def own_ways(schedule, house, other):
    """All ways, by going on letter by letter from each."""
    found = []
    open_ones = [(number,) for number, letter in enumerate(schedule.letters) if letter[0] == house]
    while open_ones:
        way = open_ones.pop()
        _, hearer, written = schedule.letters[way[-1]]
        if hearer == other:
            found.append(way)
        for number, (sender, _, then) in enumerate(schedule.letters):
            if sender == hearer and then > written:
                open_ones.append((*way, number))
    return found


def most_apart(ways):
    """How many of the ways can stand side by side, by trying all."""
    best = 0
    open_ones = [(0, ways)]
    while open_ones:
        many, rest = open_ones.pop()
        best = max(best, many)
        for at, way in enumerate(rest):
            open_ones.append((many + 1, [one for one in rest[at + 1:] if not set(one) & set(way)]))
    return best


class Apart(unittest.TestCase):
    def pairs(self, schedule):
        return itertools.permutations(range(schedule.many), 2)

    def check(self, schedule, house, other):
        ways, met = apart(schedule, house, other), meeting(schedule, house, other)
        self.assertIs(type(ways), list)
        self.assertIs(type(met), tuple)
        self.assertEqual(len(ways), len(met))
        every = own_ways(schedule, house, other)
        for way in ways:
            self.assertIn(way, every)
        letters = [number for way in ways for number in way]
        self.assertEqual(len(letters), len(set(letters)))
        self.assertEqual(list(met), sorted(set(met)))
        for way in every:
            self.assertTrue(set(way) & set(met))
        self.assertIs(are_apart(schedule, house, other, ways), True)
        self.assertIs(is_meeting(schedule, house, other, met), True)
        return len(ways)

    def test_any_schedules(self):
        chance = random.Random(51)
        for _ in range(400):
            schedule = random_schedule(chance, chance.randint(2, 6), chance.randint(0, 14), chance.randint(1, 9))
            for house, other in self.pairs(schedule):
                self.check(schedule, house, other)

    def test_no_more_can_stand_side_by_side(self):
        chance = random.Random(52)
        for _ in range(60):
            schedule = random_schedule(chance, chance.randint(3, 5), 9, chance.randint(3, 6))
            for house, other in self.pairs(schedule):
                ways = own_ways(schedule, house, other)
                if len(ways) <= 14:
                    self.assertEqual(len(apart(schedule, house, other)), most_apart(ways))

    def test_no_way(self):
        for schedule in [Schedule(2, ()), Schedule(2, ((1, 0, 0), (1, 0, 1))), Schedule(3, ((0, 2, 0), (2, 1, 0)))]:
            self.assertEqual(apart(schedule, 0, 1), [])
            self.assertEqual(meeting(schedule, 0, 1), ())

    def test_one_way(self):
        self.assertEqual(apart(turns_line(2), 0, 1), [(0,)])
        self.assertEqual(meeting(turns_line(2), 0, 1), (0,))
        chain = Schedule(4, ((0, 1, 0), (1, 2, 1), (2, 3, 2)))
        self.assertEqual(apart(chain, 0, 3), [(0, 1, 2)])
        self.assertEqual(len(meeting(chain, 0, 3)), 1)

    def test_lines_and_nets(self):
        self.assertEqual(meeting(turns_line(5), 0, 1), (0, 2, 4))
        for n in range(61):
            self.assertEqual(sorted(apart(turns_line(n), 0, 1)), [(at,) for at in range(0, n, 2)])
            self.assertEqual(meeting(turns_line(n), 1, 0), tuple(range(1, n, 2)))
        for n in range(31):
            self.assertEqual(meeting(both_line(n), 0, 1), tuple(range(0, 2 * n, 2)))
        ring = net_schedule(4, ((0, 1), (0, 3), (1, 2), (2, 3)), 7)
        self.assertEqual(self.check(ring, 0, 2), 12)
        self.assertEqual(self.check(ring, 0, 1), 12)
        path = net_schedule(3, ((0, 1), (1, 2)), 15)
        self.assertEqual(self.check(path, 0, 2), 14)

    def test_the_shortest_way_bars_two_others(self):
        self.assertIn((0, 3), own_ways(SHORT_BARS, 0, 3))
        self.assertEqual(self.check(SHORT_BARS, 0, 3), 2)
        self.assertEqual(self.check(CROSSED, 0, 3), 2)
        # each two steps of the one way are shared with another one
        tangle = Schedule(8, (
            (0, 1, 0), (0, 2, 0), (0, 3, 0), (1, 4, 1), (2, 4, 2), (2, 5, 2), (3, 5, 3), (4, 6, 3), (5, 6, 4),
            (4, 7, 5), (5, 7, 5), (6, 7, 5),
        ))
        self.assertEqual(self.check(tangle, 0, 7), 3)

    def test_a_letter_of_the_shortest_way_is_needed_no_more(self):
        # the shortest way is 0 1 2 3; two can stand side by side only without its letter from 1 to 2
        schedule = Schedule(8, (
            (0, 1, 0), (0, 4, 0), (1, 2, 1), (1, 6, 1), (4, 5, 1), (5, 2, 2), (6, 7, 2), (7, 3, 3), (2, 3, 9),
        ))
        self.assertEqual(self.check(schedule, 0, 3), 2)
        self.assertEqual(sorted(apart(schedule, 0, 3)), [(0, 3, 6, 7), (1, 4, 5, 8)])

    def test_many_houses(self):
        chance = random.Random(53)
        for _ in range(150):
            schedule = random_schedule(chance, 8, 40, chance.choice([6, 9, 15]))
            house, other = chance.sample(range(8), 2)
            ways, met = apart(schedule, house, other), meeting(schedule, house, other)
            self.assertEqual(len(ways), len(met))
            self.assertTrue(are_apart(schedule, house, other, ways))
            self.assertTrue(is_meeting(schedule, house, other, met))

    def test_errors_in_their_order(self):
        net = net_schedule(3, ((0, 1), (1, 2)), 2)
        calls = [apart, meeting, lambda *told: are_apart(*told, []), lambda *told: is_meeting(*told, ())]
        for call in calls:
            for house in [3, -1, True, None, "0", *odd_things()]:
                for other in [0, house, None]:
                    with self.assertRaises(NoHouse):
                        call(net, house, other)
                    with self.assertRaises(NoHouse):
                        call(net, other, house)
            for house in range(3):
                with self.assertRaises(NoOther):
                    call(net, house, house)

    def test_what_is_returned_is_new(self):
        ways = apart(turns_line(5), 0, 1)
        ways.clear()
        self.assertEqual(len(apart(turns_line(5), 0, 1)), 3)


class AreApart(unittest.TestCase):
    SCHEDULE = Schedule(3, ((0, 1, 0), (0, 2, 0), (1, 2, 1), (1, 0, 1), (2, 1, 2), (0, 1, 2), (1, 2, 3)))

    def judge(self, thing):
        return are_apart(self.SCHEDULE, 0, 2, thing)

    def test_right_ones(self):
        right = [
            [], [(1,)], [(0, 2)], [(5, 6)], [(0, 6)], [(1,), (0, 2)], [(5, 6), (0, 2), (1,)], [(0, 3, 5, 6)],
            [(1, 4, 6)], [(1, 4, 6), (0, 2)],
        ]
        for thing in right:
            self.assertIs(self.judge(thing), True, thing)

    def test_what_is_nearly_right(self):
        wrong = [
            (), ((1,),), [[1]], [1], [(1,), 2], [()], [(1,), ()], [(True,)], [(0, 2), (1,), None], ((1,), (0, 2)),
            [(0, 2), (0, 6)], [(1,), (1,)], [(0, 2), (5, 6), (1, 4, 6)], [(2,)], [(0,)], [(0, 1)], [(2, 0)],
            [(0, 2, 2)], [(0, 0, 2)], [(5, 2)], [(1, 4)], [(1, 2)], [(7,)], [(-1,)], [(0, -5)], [("1",)], [(False, 2)],
            [(0, [2])], [((1,),)], {(1,): 1}, None, 0, True, "", [(1.0,)], [(0, 2, 4)], [(4, 6)], [(0, 3)],
        ]
        for thing in wrong:
            self.assertIs(self.judge(thing), False, thing)
        equal_beats = Schedule(3, ((0, 1, 4), (1, 2, 4)))
        self.assertIs(are_apart(equal_beats, 0, 2, [(0, 1)]), False)
        one = Schedule(2, ((1, 0, 0), (0, 1, 1)))
        self.assertIs(are_apart(one, 0, 1, [(1,)]), True)
        self.assertIs(are_apart(one, 0, 1, [(True,)]), False)

    def test_odd_things(self):
        for thing in odd_things():
            before = repr(thing)
            self.assertIs(self.judge(thing), thing == [])
            self.assertIs(self.judge([thing]), False)
            self.assertIs(self.judge([(1,), (0, thing)]), False)
            self.assertEqual(repr(thing), before)


class IsMeeting(unittest.TestCase):
    def test_every_lot(self):
        chance = random.Random(54)
        for _ in range(40):
            schedule = random_schedule(chance, chance.randint(2, 4), 7, chance.randint(2, 6))
            ways = own_ways(schedule, 0, 1)
            for size in range(len(schedule.letters) + 1):
                for lot in itertools.combinations(range(len(schedule.letters)), size):
                    expected = all(set(way) & set(lot) for way in ways)
                    self.assertIs(is_meeting(schedule, 0, 1, lot), expected)

    def test_what_is_nearly_right(self):
        line = turns_line(5)
        self.assertIs(is_meeting(line, 0, 1, (0, 2, 4)), True)
        self.assertIs(is_meeting(line, 0, 1, (0, 1, 2, 3, 4)), True)
        wrong = [
            [0, 2, 4], (0, 4, 2), (4, 2, 0), (0, 2, 2, 4), (0, 2, 4, 4), (False, 2, 4), (0, 2, 4, 5), (-1, 0, 2, 4),
            (0, 2), (0, 2, "4"), ((0, 2, 4),), (0, 2, [4]), {0: 1, 2: 1, 4: 1}, "024", None, True, 0, (0, 2, None),
        ]
        for thing in wrong:
            self.assertIs(is_meeting(line, 0, 1, thing), False, thing)
        one = turns_line(2)
        self.assertIs(is_meeting(one, 1, 0, (1,)), True)
        self.assertIs(is_meeting(one, 1, 0, (True,)), False)
        self.assertIs(is_meeting(one, 0, 1, (0,)), True)
        self.assertIs(is_meeting(one, 0, 1, (False,)), False)

    def test_odd_things(self):
        for thing in odd_things():
            before = repr(thing)
            self.assertIs(is_meeting(turns_line(5), 0, 1, thing), False)
            self.assertIs(is_meeting(turns_line(5), 0, 1, (0, 2, thing)), False)
            # where there is no way, each lot of letters meets all, and nothing else does
            self.assertIs(is_meeting(Schedule(2, ()), 0, 1, thing), False)
            self.assertEqual(repr(thing), before)
        self.assertIs(is_meeting(Schedule(2, ()), 0, 1, ()), True)


if __name__ == "__main__":
    unittest.main()
