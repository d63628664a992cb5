"""4.1: spread and earliest."""

import random
import unittest

from tests.odd import odd_things
from tests.own import own_earliest, own_spread, random_schedule
from turnedtalk.errors import NoHouse, NoIndex, NoLetters, NoNumber, NoOrder
from turnedtalk.schedules import Schedule, both_line, net_schedule, turns_line
from turnedtalk.walks import earliest, spread


def barred_lots(chance, letters):
    """None, one, a few, half, all."""
    sizes = sorted({0, min(1, letters), min(3, letters), letters // 2, letters})
    return [tuple(sorted(chance.sample(range(letters), size))) for size in sizes]


class Spread(unittest.TestCase):
    def test_example(self):
        self.assertEqual(spread(turns_line(4), 0, 1, ()), (1, 3))

    def test_by_an_own_walk(self):
        chance = random.Random(41)
        for _ in range(250):
            schedule = random_schedule(chance, chance.randint(2, 5), chance.randint(0, 9), chance.randint(1, 7))
            for barred in barred_lots(chance, len(schedule.letters)):
                for house in range(schedule.many):
                    for beat in (0, 1, 3, 6, 7, 8):
                        expected = own_spread(schedule, house, beat, barred)
                        self.assertEqual(spread(schedule, house, beat, barred), expected)

    def test_letters_of_the_very_beat(self):
        line = turns_line(4)
        self.assertEqual(spread(line, 0, 0, ()), (0, 1))
        self.assertEqual(spread(line, 0, 2, ()), (2, 3))
        self.assertEqual(spread(line, 0, 3, ()), (3, None))
        self.assertEqual(spread(line, 1, 3, ()), (4, 3))
        # what comes by a letter of a beat goes on by no letter of this beat
        chain = Schedule(3, ((0, 1, 5), (1, 2, 5), (1, 2, 6)))
        self.assertEqual(spread(chain, 0, 5, ()), (5, 6, 7))
        self.assertEqual(spread(chain, 0, 0, ()), (0, 6, 7))
        self.assertEqual(spread(chain, 0, 5, (2,)), (5, 6, None))
        self.assertEqual(spread(Schedule(3, ((1, 2, 5), (0, 1, 5))), 0, 0, ()), (0, 6, None))

    def test_the_first_letter_that_tells(self):
        schedule = Schedule(3, ((0, 1, 3), (0, 2, 3), (0, 1, 4), (2, 1, 4), (2, 1, 9)))
        self.assertEqual(spread(schedule, 0, 0, ()), (0, 4, 4))
        self.assertEqual(spread(schedule, 0, 0, (0,)), (0, 5, 4))
        self.assertEqual(spread(schedule, 0, 0, (0, 2)), (0, 5, 4))
        self.assertEqual(spread(schedule, 0, 0, (0, 2, 3)), (0, 10, 4))
        self.assertEqual(spread(schedule, 0, 0, (0, 1, 2)), (0, None, None))

    def test_the_house_itself_knows_at_its_beat_although_letters_come_back(self):
        for beat in range(6):
            self.assertEqual(spread(both_line(5), 1, beat, ())[1], beat)

    def test_beats_far_beyond_all_letters(self):
        for beat in [5, 1000, 10 ** 20 - 1]:
            self.assertEqual(spread(turns_line(4), 1, beat, ()), (None, beat))
            self.assertEqual(spread(Schedule(3, ()), 2, beat, ()), (None, None, beat))
        late = Schedule(2, ((0, 1, 999),))
        self.assertEqual(spread(late, 0, 999, ()), (999, 1000))
        self.assertEqual(spread(late, 0, 1000, ()), (1000, None))

    def test_sixty_letters(self):
        line = turns_line(60)
        self.assertEqual(spread(line, 0, 1, tuple(range(0, 58))), (1, 59))
        self.assertEqual(spread(line, 0, 1, tuple(range(60))), (1, None))


class Earliest(unittest.TestCase):
    def test_example(self):
        self.assertEqual(earliest(turns_line(4), (0, 1, 0), 2, (0,)), 4)

    def test_by_an_own_walk(self):
        chance = random.Random(42)
        for _ in range(200):
            many = chance.randint(2, 4)
            schedule = random_schedule(chance, many, chance.randint(0, 9), chance.randint(1, 7))
            order = tuple(chance.randrange(many) for _ in range(chance.randint(1, 5)))
            for barred in barred_lots(chance, len(schedule.letters)):
                for index in range(len(order)):
                    expected = own_earliest(schedule, order, index, barred)
                    self.assertEqual(earliest(schedule, order, index, barred), expected)

    def test_word_0_and_words_of_one_house(self):
        self.assertEqual(earliest(Schedule(2, ()), (1,), 0, ()), 0)
        self.assertEqual(earliest(Schedule(2, ()), (1, 1, 1), 2, ()), 0)
        self.assertEqual(earliest(turns_line(3), (0, 1, 1, 0), 3, ()), 2)

    def test_behind_a_word_that_never_comes_none_does(self):
        self.assertEqual(earliest(turns_line(1), (0, 1), 1, ()), 1)
        for index in (1, 2, 3):
            self.assertIsNone(earliest(turns_line(3), (1, 0, 1, 0), index, (1,)))
        # the owner ahead does not know it, so it does not help that the next one writes to itself
        self.assertIsNone(earliest(turns_line(60), (0, 1, 1), 2, tuple(range(0, 60, 2))))

    def test_lines(self):
        order = (0, 1) * 20
        for index in range(40):
            self.assertEqual(earliest(turns_line(60), order, index, ()), index)
            self.assertEqual(earliest(both_line(30), order, index, ()), index if index <= 30 else None)

    def test_a_net(self):
        net = net_schedule(4, ((0, 1), (1, 2), (2, 3)), 10)
        self.assertEqual(earliest(net, (0, 3, 0), 1, ()), 3)
        self.assertEqual(earliest(net, (0, 3, 0), 2, ()), 6)
        self.assertEqual(earliest(net, (0, 3, 0), 2, (0,)), 7)


class WrongArguments(unittest.TestCase):
    NET = net_schedule(3, ((0, 1), (1, 2)), 2)
    NO_HOUSES = [3, -1, 10 ** 20 - 1, True, False, None, "0", [0], (0,), *odd_things()]
    NO_NUMBERS = [-1, -(10 ** 20 - 1), True, False, None, "0", b"0", [0], (0,), {}, turns_line(1)]
    NO_LOTS = [(8,), (1, 0), (0, 0), (True,), [], [0], None, 0, "", {}, (-1,), *odd_things()]
    NO_ORDERS = [(), (3,), (0, 3), (-1,), (True,), [0], (0,) * 41, None, 0, "0", {}, *odd_things()]

    def test_spread(self):
        for house in self.NO_HOUSES:
            for beat in [0, -1, None]:
                for barred in [(), None]:
                    with self.assertRaises(NoHouse):
                        spread(self.NET, house, beat, barred)
        for beat in self.NO_NUMBERS:
            for barred in [(), None]:
                with self.assertRaises(NoNumber):
                    spread(self.NET, 0, beat, barred)
        for barred in self.NO_LOTS:
            with self.assertRaises(NoLetters):
                spread(self.NET, 0, 0, barred)

    def test_earliest(self):
        for order in self.NO_ORDERS:
            for index in [0, -1, None]:
                for barred in [(), None]:
                    with self.assertRaises(NoOrder):
                        earliest(self.NET, order, index, barred)
        for index in [3, 40, 10 ** 20 - 1, *self.NO_NUMBERS, *odd_things()]:
            for barred in [(), None]:
                with self.assertRaises(NoIndex):
                    earliest(self.NET, (0, 1, 2), index, barred)
        for barred in self.NO_LOTS:
            for index in (0, 2):
                with self.assertRaises(NoLetters):
                    earliest(self.NET, (0, 1, 2), index, barred)


if __name__ == "__main__":
    unittest.main()
