"""3.1: Schedules, lines, nets."""

import copy
import unittest

from tests.odd import Foreign, nested_list, nested_tuple, odd_things
from turnedtalk.errors import BadSchedule, NoLetters, NoNet, NoNumber, TooMany
from turnedtalk.houses import Table
from turnedtalk.programs import Program
from turnedtalk.schedules import Schedule, both_line, net_schedule, turns_line, without

NO_NUMBERS = [thing for thing in odd_things() if not isinstance(thing, int) or isinstance(thing, bool)]


class Schedules(unittest.TestCase):
    def part(self, many, letters):
        with self.assertRaises(BadSchedule) as caught:
            Schedule(many, letters)
        return caught.exception.part

    def test_attributes(self):
        letters = ((0, 1, 0), (1, 0, 0), (2, 0, 5), (0, 2, 999))
        schedule = Schedule(3, letters)
        self.assertEqual((schedule.many, schedule.letters), (3, letters))
        self.assertEqual(Schedule(2, ()).letters, ())

    def test_how_many_houses(self):
        for many in range(2, 9):
            letters = ((many - 1, 0, 1), (0, many - 1, 1))
            self.assertEqual(Schedule(many, letters).letters, letters)
            self.assertEqual(self.part(many, ((many, 0, 1),)), 0)
            self.assertEqual(self.part(many, ((0, many - 1, 1), (0, many, 1))), 1)
        for many in [1, 9, 0, -2, 10 ** 20 - 1, *NO_NUMBERS]:
            self.assertEqual(self.part(many, ()), "many")
            self.assertEqual(self.part(many, None), "many")
            self.assertEqual(self.part(many, (None,)), "many")

    def test_letters_as_no_tuple_of_so_many(self):
        sixty = tuple((0, 1, beat) for beat in range(60))
        self.assertEqual(Schedule(2, sixty).letters, sixty)
        self.assertEqual(self.part(2, (*sixty, (0, 1, 60))), "letters")
        self.assertEqual(self.part(2, (None,) * 61), "letters")
        for thing in odd_things():
            if not isinstance(thing, tuple):
                self.assertEqual(self.part(2, thing), "letters")
        self.assertEqual(self.part(2, [(0, 1, 0)]), "letters")
        self.assertEqual(self.part(2, Schedule(2, ())), "letters")

    def test_a_letter_that_is_none(self):
        good = tuple((0, 1, beat) for beat in range(60))
        wrong = [
            (), (0, 1), (0, 1, 59, 0), [0, 1, 59], (0, 0, 59), (1, 1, 59), (0, 2, 59), (2, 0, 59), (-1, 0, 59),
            (0, -1, 59), (0, 1, -1), (0, 1, 1000), (0, 1, 10 ** 20 - 1), (10 ** 20 - 1, 0, 59), (False, 1, 59),
            (0, True, 59), (0, 1, True), (1, 0, False), ("0", 1, 59), (0, "1", 59), (0, 1, "59"), (0, 1, None),
            ((0,), 1, 59), (0, 1, (59,)), ((0, 1, 59),), nested_tuple(40), nested_list(40), nested_tuple(39, 0),
            "012", b"012", {0: 1}, None, True, 5, range(3), Schedule(2, ()), Table((), "a"),
        ]
        for place in (0, 1, 30, 59):
            for thing in [*wrong, *odd_things()]:
                self.assertEqual(self.part(2, (*good[:place], thing, *good[place + 1:])), place)

    def test_beats(self):
        Schedule(2, ((0, 1, 0), (1, 0, 0), (0, 1, 1), (1, 0, 999)))
        self.assertEqual(self.part(2, ((0, 1, 1000),)), 0)
        self.assertEqual(self.part(2, ((0, 1, 0), (0, 1, 1000))), 1)
        self.assertEqual(self.part(2, ((0, 1, 5), (1, 0, 4))), 1)
        self.assertEqual(self.part(2, ((0, 1, 5), (1, 0, 5), (0, 1, 3), (0, 1, 2))), 2)
        self.assertEqual(self.part(2, ((0, 1, 5), (1, 0, 6), (1, 0, 5))), 2)

    def test_a_triple_twice(self):
        self.assertEqual(self.part(2, ((0, 1, 5), (0, 1, 5))), 1)
        self.assertEqual(self.part(2, ((0, 1, 5), (1, 0, 5), (0, 1, 5))), 2)
        self.assertEqual(self.part(3, ((0, 1, 4), (0, 1, 5), (1, 2, 5), (0, 2, 5), (1, 2, 5), (0, 1, 5))), 4)
        Schedule(3, ((0, 1, 4), (0, 1, 5), (1, 0, 5), (0, 2, 5)))
        Schedule(3, ((2, 1, 5), (0, 1, 5)))

    def test_the_first_of_two_faults(self):
        self.assertEqual(self.part(2, ((0, 1, 5), (0, 1, 5), (0, 0, 5))), 1)
        self.assertEqual(self.part(2, ((0, 1, 5), (0, 0, 5), (0, 1, 4))), 1)
        self.assertEqual(self.part(2, ((0, 1, 5), None, None)), 1)
        self.assertEqual(self.part(1, []), "many")

    def test_equality(self):
        letters = ((0, 1, 0), (1, 0, 3))
        schedule = Schedule(2, letters)
        self.assertTrue(schedule == Schedule(2, tuple(list(letters))))
        self.assertFalse(schedule != Schedule(2, letters))
        for other in [Schedule(3, letters), Schedule(2, letters[:1]), Schedule(2, ((0, 1, 0), (1, 0, 4)))]:
            self.assertFalse(schedule == other)
            self.assertTrue(schedule != other)
        alike = Foreign()
        alike.many, alike.letters = 2, letters
        for thing in [*odd_things(), alike, (2, letters), letters, Program(()), Table((), "a")]:
            self.assertFalse(schedule == thing)
            self.assertFalse(thing == schedule)

    def test_no_argument_is_changed(self):
        letters = [(0, 1, 0)]
        self.assertEqual(self.part(2, letters), "letters")
        inner = [0, 1, 0]
        self.assertEqual(self.part(2, (inner,)), 0)
        self.assertEqual((letters, inner), ([(0, 1, 0)], [0, 1, 0]))


class Lines(unittest.TestCase):
    def test_turns_line(self):
        self.assertEqual(turns_line(0), Schedule(2, ()))
        self.assertEqual(turns_line(1), Schedule(2, ((0, 1, 0),)))
        self.assertEqual(turns_line(4), Schedule(2, ((0, 1, 0), (1, 0, 1), (0, 1, 2), (1, 0, 3))))
        for n in range(61):
            letters = turns_line(n).letters
            self.assertEqual(len(letters), n)
            for k, letter in enumerate(letters):
                self.assertEqual(letter, (1, 0, k) if k % 2 else (0, 1, k))

    def test_both_line(self):
        self.assertEqual(both_line(0), Schedule(2, ()))
        self.assertEqual(both_line(1), Schedule(2, ((0, 1, 0), (1, 0, 0))))
        self.assertEqual(both_line(2), Schedule(2, ((0, 1, 0), (1, 0, 0), (0, 1, 1), (1, 0, 1))))
        for n in range(31):
            letters = both_line(n).letters
            self.assertEqual(len(letters), 2 * n)
            for k, letter in enumerate(letters):
                self.assertEqual(letter, (k % 2, 1 - k % 2, k // 2))

    def test_no_number(self):
        for n in [-1, 61, 1000, 10 ** 20 - 1, *NO_NUMBERS]:
            with self.assertRaises(NoNumber):
                turns_line(n)
        for n in [-1, 31, 60, 10 ** 20 - 1, *NO_NUMBERS]:
            with self.assertRaises(NoNumber):
                both_line(n)


class Nets(unittest.TestCase):
    def test_letters(self):
        self.assertEqual(net_schedule(2, ((0, 1),), 2), both_line(2))
        net = net_schedule(3, ((0, 1), (1, 2)), 2)
        self.assertEqual(net.many, 3)
        self.assertEqual(net.letters, (
            (0, 1, 0), (1, 0, 0), (1, 2, 0), (2, 1, 0),
            (0, 1, 1), (1, 0, 1), (1, 2, 1), (2, 1, 1),
        ))
        self.assertEqual(net_schedule(8, ((0, 7), (2, 5), (6, 7)), 1).letters, (
            (0, 7, 0), (7, 0, 0), (2, 5, 0), (5, 2, 0), (6, 7, 0), (7, 6, 0),
        ))

    def test_few_letters(self):
        self.assertEqual(net_schedule(5, (), 60), Schedule(5, ()))
        self.assertEqual(net_schedule(5, ((0, 1), (0, 2)), 0), Schedule(5, ()))
        self.assertEqual(net_schedule(2, (), 0), Schedule(2, ()))

    def test_how_many_houses(self):
        for many in range(2, 9):
            self.assertEqual(net_schedule(many, ((0, many - 1),), 1).many, many)
            with self.assertRaises(NoNet):
                net_schedule(many, ((0, many),), 1)
        for many in [1, 9, 0, -2, 10 ** 20 - 1, *NO_NUMBERS]:
            with self.assertRaises(NoNet):
                net_schedule(many, (), 1)

    def test_ties_that_are_none(self):
        wrong = [
            ((0, 0),), ((1, 0),), ((0, 1), (0, 1)), ((0, 2), (0, 1)), ((1, 2), (0, 2)), ((0, 3),), ((-1, 0),), ((0, -1),),
            ((0,),), ((0, 1, 2),), ([0, 1],), [(0, 1)], [], "01", ("01",), (0, 1), ((0, True),), ((False, 1),),
            ((0, "1"),), ((0, None),), ((0, 1), None), ((0, 1), (0, 2), (1, 2), (1, 2)), ((0, 1), (1, 2), (0, 2)),
            (((0,), (1,)),), {(0, 1): 1}, {}, None, 0, True, ((0, 1), []), Schedule(2, ()), ((10 ** 20 - 2, 10 ** 20 - 1),),
        ]
        for ties in [*wrong, *odd_things()]:
            with self.assertRaises(NoNet):
                net_schedule(3, ties, 1)
            with self.assertRaises(NoNet):
                net_schedule(3, ties, 0)
        net_schedule(3, ((0, 1), (0, 2), (1, 2)), 1)

    def test_no_number(self):
        for beats in [-1, 61, 10 ** 20 - 1, *NO_NUMBERS]:
            for ties in [(), ((0, 1),)]:
                with self.assertRaises(NoNumber):
                    net_schedule(2, ties, beats)

    def test_too_many(self):
        every = tuple((one, other) for one in range(8) for other in range(one + 1, 8))
        self.assertEqual(len(net_schedule(8, every, 1).letters), 56)
        for many_ties, beats in [(1, 30), (2, 15), (3, 10), (5, 6), (6, 5), (10, 3), (15, 2), (28, 1)]:
            ties = every[:many_ties]
            net = net_schedule(8, ties, beats)
            self.assertEqual(len(net.letters), 2 * many_ties * beats)
            self.assertEqual(net.letters[-1], (ties[-1][1], ties[-1][0], beats - 1))
            with self.assertRaises(TooMany) as caught:
                net_schedule(8, ties, beats + 1)
            self.assertEqual(caught.exception.most, 60)

    def test_errors_in_their_order(self):
        for many, ties in [(1, ((0, 1),)), (2, ((1, 0),)), (None, None), (9, []), (2, ((0, 1), (0, 1)))]:
            for beats in [61, None, True, 60]:
                with self.assertRaises(NoNet):
                    net_schedule(many, ties, beats)
        with self.assertRaises(NoNumber):
            net_schedule(2, ((0, 1),), 61)
        with self.assertRaises(TooMany):
            net_schedule(2, ((0, 1),), 60)
        with self.assertRaises(TooMany):
            net_schedule(2, ((0, 1),), 31)


class Without(unittest.TestCase):
    NET = net_schedule(3, ((0, 1), (1, 2)), 2)

    def test_lots(self):
        letters = self.NET.letters
        self.assertEqual(without(self.NET, ()), self.NET)
        self.assertEqual(without(self.NET, (0,)), Schedule(3, letters[1:]))
        self.assertEqual(without(self.NET, (7,)), Schedule(3, letters[:7]))
        self.assertEqual(without(self.NET, (0, 3, 4, 7)), Schedule(3, letters[1:3] + letters[5:7]))
        self.assertEqual(without(self.NET, tuple(range(8))), Schedule(3, ()))
        self.assertEqual(without(turns_line(60), tuple(range(0, 60, 2))).letters, turns_line(60).letters[1::2])
        self.assertEqual(without(Schedule(2, ()), ()), Schedule(2, ()))

    def test_the_schedule_stays_as_it_was(self):
        before = copy.deepcopy(self.NET.letters)
        without(self.NET, (1, 2))
        self.assertEqual(self.NET.letters, before)

    def test_no_letters(self):
        wrong = [
            (8,), (0, 8), (-1,), (-1, 0), (0, 0), (1, 0), (0, 2, 1), (0, 1, 1), (True,), (False,), (0, True), (None,),
            ("0",), (b"0",), ((0,),), [0], [], [0, 1], {0: 1}, {}, "0", "", 0, None, True, range(2), (10 ** 20 - 1,),
            self.NET, ((0, 1, 0),), nested_tuple(39, 0), nested_list(40),
        ]
        for thing in [*wrong, *odd_things()]:
            with self.assertRaises(NoLetters):
                without(self.NET, thing)
        with self.assertRaises(NoLetters):
            without(Schedule(2, ()), (0,))
        with self.assertRaises(NoLetters):
            without(turns_line(60), (59, 60))


if __name__ == "__main__":
    unittest.main()
