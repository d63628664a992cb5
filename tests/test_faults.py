"""3.3: Faults and Hearing."""

import unittest

from tests.odd import Foreign, nested_list, nested_tuple, odd_things
from turnedtalk.errors import BadFaults
from turnedtalk.faults import Faults, Hearing
from turnedtalk.houses import Table
from turnedtalk.programs import Program
from turnedtalk.schedules import Schedule

THINGS = [
    None, True, False, 0, 1, -1, 10 ** 20 - 1, -(10 ** 20 - 1), "", "a", "\n", "a" * 20000, (), (None,), ((), ((),)),
    (0, False, "", None), (None,) * 20000, nested_tuple(40), nested_tuple(300), nested_tuple(300, True),
    (0, ((1, ()), (3, ("x",))), (((), "a"),)),
]
NO_THINGS = [
    [], [()], {}, {"a": 1}, b"", b"a", ([],), ((), ({},)), (b"",), object(), Foreign(), Table((), "a"), Program(()),
    Schedule(2, ()), (Table((), "a"),), nested_list(40), nested_tuple(39, []), bytearray(b"a"), range(2), len, int, ...,
    NotImplemented, Faults((), ()), Hearing(len), ValueError(), BadFaults(1), (None,) * 19999 + ([],),
]


class FaultsThatAreRight(unittest.TestCase):
    def test_attributes(self):
        turned = ((0, None), (2, "x"), (59, (1, (True,))))
        faults = Faults((1, 3, 58), turned)
        self.assertEqual((faults.lost, faults.turned), ((1, 3, 58), turned))
        self.assertEqual((Faults((), ()).lost, Faults((), ()).turned), ((), ()))
        every = tuple(range(60))
        self.assertEqual(Faults(every, ()).lost, every)
        self.assertEqual(len(Faults((), tuple((at, at) for at in every)).turned), 60)

    def test_each_thing(self):
        for thing in THINGS:
            faults = Faults((), ((7, thing),))
            self.assertIs(faults.turned[0][1], thing)
            self.assertIs(faults.ear(7, "other")[0], thing)

    def test_the_ear_of_each_letter(self):
        lost, turned = (0, 7, 8, 59), ((1, None), (6, "x"), (9, ()), (58, (False, 0)))
        faults = Faults(lost, turned)
        into = dict(turned)
        for letter in range(60):
            for thing in [None, "y", 0, False, (), ("x",)]:
                ear = faults.ear(letter, thing)
                if letter in lost:
                    self.assertEqual(ear, ())
                else:
                    self.assertEqual(ear, (into.get(letter, thing),))
                    self.assertIs(ear[0], into.get(letter, thing))
                self.assertIsInstance(ear, tuple)

    def test_letters_without_faults_are_heard_as_they_are(self):
        for letter in range(60):
            for thing in THINGS:
                self.assertIs(Faults((), ()).ear(letter, thing)[0], thing)


class FaultsThatAreNone(unittest.TestCase):
    def part(self, lost, turned):
        with self.assertRaises(BadFaults) as caught:
            Faults(lost, turned)
        return caught.exception.part

    def test_lost(self):
        wrong = [
            (1, 0), (2, 1, 3), (0, 0), (1, 2, 2), (60,), (0, 60), (-1,), (-1, 0), (True,), (False,), (0, True), [],
            [0], [0, 1], None, 0, True, "", "01", b"", {}, {0: 1}, ("0",), ((0,),), (None,), (10 ** 20 - 1,), range(2),
            nested_tuple(39, 0), nested_list(40), Faults((), ()), (b"0",), ([],), tuple(range(61)),
        ]
        for thing in [*wrong, *odd_things()]:
            self.assertEqual(self.part(thing, ()), "lost")

    def test_turned_as_no_tuple(self):
        for thing in odd_things() + [[(0, None)], {0: None}, {}, None, "", 0, True, Faults((), ())]:
            if not isinstance(thing, tuple):
                self.assertEqual(self.part((), thing), "turned")

    def test_the_first_that_is_no_pair(self):
        good = tuple((at, None) for at in range(60))
        wrong = [
            None, 5, True, "ab", [0, None], (), (59,), (59, None, None), {59: None}, nested_tuple(40), b"ab", Foreign(),
            (-1, None), (60, None), (10 ** 20 - 1, None), (True, None), (False, None), ("59", None), (None, None),
            ((59,), None), ([59], None), (b"5", None), (Faults((), ()), None),
        ]
        for place in (0, 1, 30, 59):
            for thing in wrong:
                self.assertEqual(self.part((), (*good[:place], thing, *good[place + 1:])), place, thing)
        for thing in odd_things():
            self.assertEqual(self.part((), (thing,)), 0)
            self.assertEqual(self.part((), ((thing, None),)), 0)

    def test_no_thing(self):
        for thing in NO_THINGS:
            for place in (0, 1, 5):
                good = tuple((at, None) for at in range(place))
                self.assertEqual(self.part((), (*good, (place, thing))), place)
                self.assertEqual(self.part((), (*good, (place, ("a", (thing,))), None)), place)

    def test_not_above_the_one_ahead(self):
        self.assertEqual(self.part((), ((0, None), (0, None))), 1)
        self.assertEqual(self.part((), ((5, None), (4, None))), 1)
        self.assertEqual(self.part((), ((5, None), (6, None), (6, 1), (5, 1))), 2)
        self.assertEqual(self.part((), ((5, None), (7, None), (6, None), (8, None))), 2)

    def test_in_lost(self):
        self.assertEqual(self.part((0,), ((0, None),)), 0)
        self.assertEqual(self.part((3, 5), ((2, None), (4, None), (5, None), (3, None))), 2)
        Faults((3, 5), ((2, None), (4, None), (6, None)))

    def test_two_wrong_at_once(self):
        self.assertEqual(self.part([], []), "lost")
        self.assertEqual(self.part((60,), (None,)), "lost")
        self.assertEqual(self.part((1, 0), None), "lost")
        self.assertEqual(self.part((0,), [(0, None)]), "turned")
        self.assertEqual(self.part((0,), ((1, None), (0, None), None)), 1)
        self.assertEqual(self.part((2,), ((1, None), (2, None), (1, []))), 1)
        self.assertEqual(self.part((), ((1, None), (60, []), (0, None))), 1)

    def test_no_argument_is_changed(self):
        lost, inner = [1, 0], [None]
        self.assertEqual(self.part(lost, ()), "lost")
        self.assertEqual(self.part((), ((0, inner),)), 0)
        self.assertEqual((lost, inner), ([1, 0], [None]))


class Equality(unittest.TestCase):
    def test_other_faults(self):
        faults = Faults((1, 2), ((3, "x"), (4, (1,))))
        self.assertTrue(faults == Faults((1, 2), ((3, "x"), (4, (1,)))))
        self.assertFalse(faults != Faults((1, 2), ((3, "x"), (4, (1,)))))
        # as Python compares
        self.assertTrue(faults == Faults((1, 2), ((3, "x"), (4, (True,)))))
        unlike = [
            Faults((1,), ((3, "x"), (4, (1,)))), Faults((1, 2), ((3, "x"),)), Faults((1, 2), ((3, "x"), (5, (1,)))),
            Faults((1, 2), ((3, "y"), (4, (1,)))), Faults((), ()),
        ]
        for other in unlike:
            self.assertFalse(faults == other)
            self.assertTrue(faults != other)

    def test_other_things(self):
        faults = Faults((), ())
        alike = Foreign()
        alike.lost, alike.turned = (), ()
        for thing in [alike, ((), ()), (), Hearing(len), Schedule(2, ()), Table((), ""), *odd_things()]:
            if not isinstance(thing, Faults):
                self.assertFalse(faults == thing)
                self.assertFalse(thing == faults)
                self.assertTrue(faults != thing)


class Hearings(unittest.TestCase):
    def test_it_tells_what_the_function_tells_of_both(self):
        seen = []

        def hearing(letter, thing):
            seen.append((letter, thing))
            return ((letter, thing),) if letter % 2 else ()

        turner = Hearing(hearing)
        self.assertEqual(turner.ear(3, "a"), ((3, "a"),))
        self.assertEqual(turner.ear(4, None), ())
        self.assertEqual(seen, [(3, "a"), (4, None)])

    def test_whatever_it_tells(self):
        for thing in odd_things():
            self.assertIs(Hearing(lambda letter, held: thing).ear(0, None), thing)

    def test_its_errors_go_on(self):
        def hearing(letter, thing):
            raise KeyError(letter)

        with self.assertRaises(KeyError):
            Hearing(hearing).ear(1, None)


if __name__ == "__main__":
    unittest.main()
