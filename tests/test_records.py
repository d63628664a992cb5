"""3.2 and 3.4: Hands, runs, Records, what was heard, lost and turned."""

import itertools
import random
import unittest

from tests.odd import Foreign, nested_list, nested_tuple, odd_things, things_of_python
from tests.own import own_heard, own_run, random_schedule
from turnedtalk.errors import BadEar, BadHouse, BadLetter, NoHouse, NoHouses, NoNumber, NoRow
from turnedtalk.faults import Faults, Hearing
from turnedtalk.houses import Table, Voice
from turnedtalk.programs import Program
from turnedtalk.records import Hand, Record, carried, heard, lost, turned
from turnedtalk.schedules import Schedule, both_line, net_schedule, turns_line
from turnedtalk.votes import Votes

P = (Table((((), "a"),), "b"), Table(((("a",), "c"),), "d"))
EIGHT = tuple(Table((), str(at)) for at in range(8))
NONE = Faults((), ())
NO_THINGS = [
    [], [()], {}, b"", ([],), ((), (b"x",)), object(), Foreign(), P[0], Program(()), NONE, nested_list(40),
    nested_tuple(39, []), range(2), len, int, ..., NoRow(), (None,) * 19999 + ({},),
]


def writer(writing):
    """A manner that writes so and tells nothing."""
    return Hand(writing, lambda house, heard, ask: None)


def everything(house, heard, ask, letter):
    return (house, heard, letter, ask(()))


def all_heard(house, heard, ask):
    return (house, heard, ask(("x",)))


class Hands(unittest.TestCase):
    def test_it_calls_its_functions(self):
        hand = Hand(lambda *told: ("wrote", *told), lambda *told: ("told", *told))
        self.assertEqual(hand.write(1, (), "ask", 5), ("wrote", 1, (), "ask", 5))
        self.assertEqual(hand.tell(0, ((1, ()),), "ask"), ("told", 0, ((1, ()),), "ask"))


class Runs(unittest.TestCase):
    def check(self, schedule, houses, manner, turner):
        record = carried(schedule, houses, manner, turner)
        self.assertIs(type(record), Record)
        found = (record.sent, record.ears, record.told, record.asks)
        self.assertEqual(repr(found), repr(own_run(schedule, houses, manner, turner)))
        return record

    def test_two_houses(self):
        record = self.check(turns_line(2), P, Hand(everything, all_heard), NONE)
        first = (0, (), 0, "a")
        second = (1, ((0, (first,)),), 1, "d")
        self.assertEqual(record.sent, (first, second))
        self.assertEqual(record.ears, ((first,), (second,)))
        self.assertEqual(record.told, ((0, ((1, (second,)),), "b"), (1, ((0, (first,)),), "d")))
        self.assertEqual(record.asks, (((), ("x",)), ((), ("x",))))

    def test_any_schedules_and_faults(self):
        chance = random.Random(31)
        for _ in range(150):
            schedule = random_schedule(chance, chance.randint(2, 8), chance.randint(0, 12), chance.randint(1, 8))
            houses = EIGHT[:schedule.many]
            numbers = range(len(schedule.letters))
            gone = tuple(number for number in numbers if chance.random() < 0.2)
            into = tuple((number, chance.choice([None, True, 1, "x", ((), "y")]))
                         for number in numbers if number not in gone and chance.random() < 0.3)
            record = self.check(schedule, houses, Hand(everything, all_heard), Faults(gone, into))
            self.assertEqual(lost(record), gone)
            self.assertEqual(turned(record), tuple(number for number, _ in into))

    def test_no_letters(self):
        record = self.check(Schedule(3, ()), EIGHT[:3], Hand(everything, all_heard), NONE)
        self.assertEqual((record.sent, record.ears), ((), ()))
        self.assertEqual(record.told, ((0, (), "0"), (1, (), "1"), (2, (), "2")))

    def test_what_each_house_heard_ahead_of_each_beat(self):
        for schedule in [turns_line(7), both_line(4), net_schedule(4, ((0, 1), (0, 2), (2, 3)), 3)]:
            seen = {}

            def writing(house, heard_so_far, ask, letter):
                seen[letter] = (house, heard_so_far)
                return letter

            record = carried(schedule, EIGHT[:schedule.many], writer(writing), Faults((1,), ((2, "t"),)))
            for number, (house, _, beat) in enumerate(schedule.letters):
                self.assertEqual(seen[number], (house, heard(schedule, record, house, beat)))
                self.assertEqual(seen[number][1], own_heard(schedule, record.ears, house, beat))

    def test_all_letters_of_a_beat_are_written_ahead_of_the_hearing_of_any(self):
        done = []

        def writing(house, heard_so_far, ask, letter):
            done.append(("write", house, letter))
            return letter

        def hearing(letter, thing):
            done.append(("hear", letter, thing))
            return (thing,)

        def telling(house, heard_so_far, ask):
            done.append(("tell", house))

        schedule = Schedule(3, ((2, 0, 1), (0, 1, 1), (1, 2, 1), (1, 0, 4), (0, 2, 7), (2, 1, 7)))
        carried(schedule, EIGHT[:3], Hand(writing, telling), Hearing(hearing))
        self.assertEqual(done, [
            ("write", 2, 0), ("write", 0, 1), ("write", 1, 2), ("hear", 0, 0), ("hear", 1, 1), ("hear", 2, 2),
            ("write", 1, 3), ("hear", 3, 3), ("write", 0, 4), ("write", 2, 5), ("hear", 4, 4), ("hear", 5, 5),
            ("tell", 0), ("tell", 1), ("tell", 2),
        ])

    def test_whatever_is_told(self):
        for thing in odd_things():
            record = carried(turns_line(1), P, Hand(lambda *told: None, lambda *told: thing), NONE)
            self.assertIs(record.told[0], thing)
            self.assertIs(record.told[1], thing)

    def test_things_as_deep_as_they_may_be(self):
        for thing in [nested_tuple(300), nested_tuple(299, True), "a" * 20000, (None,) * 20000, 10 ** 20 - 1]:
            record = carried(turns_line(3), P, writer(lambda *told: thing), NONE)
            self.assertIs(record.sent[2], thing)
            self.assertIs(record.ears[2][0], thing)
            self.assertEqual(turned(record), ())

    def test_houses_that_write_all_that_they_heard(self):
        # what so is written has thousands of billions of parts
        for schedule in [turns_line(60), both_line(30)]:
            record = carried(schedule, P, writer(everything), Faults((7,), ((20, None),)))
            self.assertEqual(len(heard(schedule, record, 0, 1000)), 30)
            self.assertEqual(lost(record), (7,))
        for schedule in [turns_line(24), both_line(13)]:
            record = carried(schedule, P, writer(everything), Faults((7,), ((20, None),)))
            self.assertEqual((lost(record), turned(record)), ((7,), (20,)))

    def test_equal_calls_give_equal_answers(self):
        one = carried(turns_line(7), P, Hand(everything, all_heard), Faults((3,), ((2, 1),)))
        other = carried(turns_line(7), P, Hand(everything, all_heard), Faults((3,), ((2, 1),)))
        self.assertTrue(one == other)


class Asks(unittest.TestCase):
    def test_each_row_once_in_the_order_in_which_it_was_first_asked(self):
        rows = {0: ["b", "a", "b"], 1: ["a"], 2: ["c", "a", "b", "c"]}

        def writing(house, heard_so_far, ask, letter):
            return tuple(ask((name,)) for name in rows[letter])

        def telling(house, heard_so_far, ask):
            return (ask(("d",)), ask(("c",)), ask(()))

        houses = (Voice(lambda row: "0" + "".join(row)), Voice(lambda row: "1" + "".join(row)))
        record = carried(turns_line(3), houses, Hand(writing, telling), NONE)
        self.assertEqual(record.sent, (("0b", "0a", "0b"), ("1a",), ("0c", "0a", "0b", "0c")))
        self.assertEqual(record.told, (("0d", "0c", "0"), ("1d", "1c", "1")))
        self.assertEqual(record.asks, (
            (("b",), ("a",), ("c",), ("d",), ()), (("a",), ("d",), ("c",), ()),
        ))

    def test_no_row(self):
        for thing in [*odd_things(), ["a"], "a", None, ("a", 1), ("a",) * 401, ("a" * 41,)]:
            with self.assertRaises(NoRow):
                carried(turns_line(1), P, writer(lambda house, seen, ask, letter: ask(thing)), NONE)

    def test_what_is_no_row_is_not_noted(self):
        def writing(house, heard_so_far, ask, letter):
            for thing in [["a"], None, ("a",)]:
                try:
                    ask(thing)
                except NoRow:
                    pass

        self.assertEqual(carried(turns_line(1), P, writer(writing), NONE).asks, ((("a",),), ()))

    def test_who_goes_on_behind_a_bad_house(self):
        def writing(house, heard_so_far, ask, letter):
            found = []
            for row in [("a",), (), ("a",)]:
                try:
                    found.append(ask(row))
                except BadHouse as error:
                    found.append(("bad", error.row))
            return tuple(found)

        houses = (Voice(lambda row: "w" if row == () else None), P[1])
        record = carried(turns_line(1), houses, writer(writing), NONE)
        self.assertEqual(record.sent, ((("bad", ("a",)), "w", ("bad", ("a",))),))
        self.assertEqual(record.asks, ((("a",), ()), ()))

    def test_ask_knows_the_own_house_alone(self):
        record = carried(turns_line(2), P, writer(lambda house, seen, ask, letter: ask(("a",))), NONE)
        self.assertEqual(record.sent, ("b", "c"))


class Errors(unittest.TestCase):
    def test_no_houses(self):
        table = P[0]
        wrong = [
            (), (table,), (table, table, table), [table, table], {0: table, 1: table}, None, 0, True, "ab", b"ab",
            table, range(2), Program(()),
        ]
        for thing in odd_things():
            if not isinstance(thing, (Table, Voice, Program, Foreign)):
                wrong += [(table, thing), (thing, table), (thing, thing)]
                if not isinstance(thing, tuple) or not isinstance(thing[0], Table):
                    wrong.append(thing)
        wrong += [(table, Table), (table, len), (table, lambda row: "a"), (NoRow(), table), (table, ValueError())]
        for thing in wrong:
            for manner in [writer(lambda *told: None), writer(lambda *told: [])]:
                with self.assertRaises(NoHouses, msg=repr(thing)[:80]):
                    carried(turns_line(2), thing, manner, NONE)
        with self.assertRaises(NoHouses):
            carried(Schedule(3, ()), P, writer(lambda *told: None), NONE)

    def test_what_python_has_is_no_house(self):
        table = P[0]
        for thing in things_of_python():
            for wrong in [(thing, table), (table, thing), (thing, thing)]:
                for schedule in [turns_line(0), turns_line(2)]:
                    with self.assertRaises(NoHouses, msg=repr(thing)):
                        carried(schedule, wrong, Votes((0, 1)), NONE)

    def test_houses_of_whoever(self):
        class Echo:
            def word(self, row):
                return "".join(row)[:40]

        record = carried(turns_line(1), (Echo(), P[1]), writer(lambda house, seen, ask, letter: ask(("q",))), NONE)
        self.assertEqual(record.sent, ("q",))

    def test_bad_letter(self):
        for thing in NO_THINGS:
            for at in (0, 1, 4):
                for held in [thing, (thing,), ("a", ((), thing))]:
                    manner = writer(lambda house, seen, ask, letter: held if letter >= at else None)
                    with self.assertRaises(BadLetter) as caught:
                        carried(turns_line(5), P, manner, NONE)
                    self.assertEqual(caught.exception.letter, at)

    def test_bad_ear(self):
        wrong = [None, True, 0, "", "a", [], [None], {}, (None, None), ((), ()), b"", P[0], nested_list(40)]
        wrong += [(thing,) for thing in NO_THINGS] + [thing for thing in odd_things() if not isinstance(thing, tuple)]
        for thing in wrong:
            for at in (0, 1, 4):
                turner = Hearing(lambda letter, held: thing if letter >= at else ())
                with self.assertRaises(BadEar) as caught:
                    carried(turns_line(5), P, writer(lambda *told: None), turner)
                self.assertEqual(caught.exception.letter, at)

    def test_bad_house(self):
        houses = (P[0], Voice(lambda row: None if row else "w"))
        manner = writer(lambda house, seen, ask, letter: ask((str(letter),)))
        with self.assertRaises(BadHouse) as caught:
            carried(turns_line(5), houses, manner, NONE)
        self.assertEqual(caught.exception.row, ("1",))
        manner = Hand(lambda *told: None, lambda house, seen, ask: ask(("t", str(house))))
        with self.assertRaises(BadHouse) as caught:
            carried(turns_line(5), houses, manner, NONE)
        self.assertEqual(caught.exception.row, ("t", "1"))

    def first_error(self, schedule, bad_letters, bad_ears, bad_houses):
        """The error of a run in which these letters and ears are none, and these letters' rows and tellers' have no word."""
        houses = tuple(Voice(lambda row: None) for _ in range(schedule.many))

        def writing(house, seen, ask, letter):
            if letter in bad_houses:
                ask((str(letter),))
            return [] if letter in bad_letters else None

        def telling(house, seen, ask):
            if ("tell", house) in bad_houses:
                ask(("tell", str(house)))

        turner = Hearing(lambda letter, thing: [] if letter in bad_ears else ())
        try:
            carried(schedule, houses, Hand(writing, telling), turner)
        except (BadLetter, BadEar) as error:
            return type(error), error.letter
        except BadHouse as error:
            return BadHouse, error.row
        return None

    def test_the_first_error_that_comes(self):
        # letters 0 1 2 are of one beat, 3 of the next one, 4 5 of the last one
        schedule = Schedule(3, ((2, 0, 1), (0, 1, 1), (1, 2, 1), (1, 0, 4), (0, 2, 7), (2, 1, 7)))
        course = []
        for letters in [(0, 1, 2), (3,), (4, 5)]:
            for number in letters:
                course += [("house", number), ("letter", number)]
            course += [("ear", number) for number in letters]
        course += [("house", ("tell", house)) for house in range(3)]
        expected = {"letter": BadLetter, "ear": BadEar}
        for faults in [*itertools.combinations(course, 1), *itertools.combinations(course, 2)]:
            found = self.first_error(
                schedule,
                [number for kind, number in faults if kind == "letter"],
                [number for kind, number in faults if kind == "ear"],
                [number for kind, number in faults if kind == "house"],
            )
            kind, number = faults[0]
            if kind != "house":
                self.assertEqual(found, (expected[kind], number))
            elif isinstance(number, tuple):
                self.assertEqual(found, (BadHouse, ("tell", str(number[1]))))
            else:
                self.assertEqual(found, (BadHouse, (str(number),)))
        self.assertIsNone(self.first_error(schedule, (), (), ()))

    def test_nothing_is_done_behind_an_error(self):
        done = []

        def writing(house, seen, ask, letter):
            done.append(letter)
            return [] if letter == 1 else None

        with self.assertRaises(BadLetter):
            carried(both_line(3), P, writer(writing), Hearing(lambda letter, thing: done.append("heard")))
        self.assertEqual(done, [0, 1])

    def test_errors_of_whoever_go_on(self):
        def wrong(*told):
            raise KeyError("mine")

        calls = [
            (P, writer(wrong), NONE),
            (P, Hand(lambda *told: None, wrong), NONE),
            (P, writer(lambda *told: None), Hearing(wrong)),
            ((Voice(wrong), P[1]), writer(lambda house, seen, ask, letter: ask(())), NONE),
        ]
        for houses, manner, turner in calls:
            with self.assertRaises(KeyError):
                carried(turns_line(2), houses, manner, turner)


class Heard(unittest.TestCase):
    SCHEDULE = Schedule(3, ((2, 0, 1), (0, 1, 1), (1, 0, 1), (1, 0, 4), (0, 2, 7), (2, 0, 999)))
    RECORD = carried(SCHEDULE, EIGHT[:3], writer(lambda house, seen, ask, letter: letter), Faults((2,), ((3, "t"),)))

    def test_each_beat(self):
        pairs = ((0, (0,)), (2, ()), (3, ("t",)), (5, (5,)))
        for beat, many in [(0, 0), (1, 0), (2, 2), (4, 2), (5, 3), (999, 3), (1000, 4), (10 ** 20 - 1, 4)]:
            self.assertEqual(heard(self.SCHEDULE, self.RECORD, 0, beat), pairs[:many])
        self.assertEqual(heard(self.SCHEDULE, self.RECORD, 1, 1), ())
        self.assertEqual(heard(self.SCHEDULE, self.RECORD, 1, 2), ((1, (1,)),))
        self.assertEqual(heard(self.SCHEDULE, self.RECORD, 2, 8), ((4, (4,)),))

    def test_errors_in_their_order(self):
        for house in [3, -1, True, False, None, "0", [0], *odd_things()]:
            for beat in [0, -1, None]:
                with self.assertRaises(NoHouse):
                    heard(self.SCHEDULE, self.RECORD, house, beat)
        for beat in [-1, True, False, None, "0", [0], (0,), {}, -(10 ** 20 - 1), self.RECORD]:
            with self.assertRaises(NoNumber):
                heard(self.SCHEDULE, self.RECORD, 0, beat)


class LostAndTurned(unittest.TestCase):
    def turned_into(self, thing, into):
        record = carried(turns_line(2), P, writer(lambda *told: thing), Faults((), ((1, into),)))
        self.assertEqual(lost(record), ())
        return turned(record)

    def test_equal_also_in_kind(self):
        alike = [None, True, False, 0, 1, "", "1", (), (1,), (True,), ((), 0), ((), False), ((), (0, "")), (1, True)]
        for thing in alike:
            for into in alike:
                self.assertEqual(self.turned_into(thing, into), () if repr(thing) == repr(into) else (1,))

    def test_deep_within(self):
        for deep in (1, 40, 299):
            self.assertEqual(self.turned_into(nested_tuple(deep, 1), nested_tuple(deep, True)), (1,))
            self.assertEqual(self.turned_into(nested_tuple(deep, 0), nested_tuple(deep, False)), (1,))
            self.assertEqual(self.turned_into(nested_tuple(deep, 1), nested_tuple(deep, 1)), ())
            self.assertEqual(self.turned_into(nested_tuple(deep, ("a", 1)), nested_tuple(deep, ("a", 1))), ())
        wide = tuple((at, ()) for at in range(5000))
        self.assertEqual(self.turned_into(wide, (*wide[:1], (True, ()), *wide[2:])), (1,))
        self.assertEqual(self.turned_into(wide, tuple(list(wide))), ())

    def test_a_part_of_what_was_heard(self):
        schedule = turns_line(9)
        true = carried(schedule, P, writer(everything), NONE)
        letter = true.sent[8]
        bent = eval(repr(letter).replace("(1, ((0, ", "(True, ((0, ", 1))
        self.assertEqual(bent, letter)
        record = carried(schedule, P, writer(everything), Faults((), ((8, bent),)))
        self.assertEqual(turned(record), (8,))
        record = carried(schedule, P, writer(everything), Faults((), ((8, eval(repr(letter))),)))
        self.assertEqual(turned(record), ())

    def test_several(self):
        record = carried(
            turns_line(9), P, writer(lambda house, seen, ask, letter: letter),
            Faults((0, 3, 8), ((1, True), (2, 2), (5, None), (6, "6"))),
        )
        self.assertEqual(lost(record), (0, 3, 8))
        self.assertEqual(turned(record), (1, 5, 6))

    def test_no_letters(self):
        record = carried(Schedule(2, ()), P, writer(lambda *told: None), NONE)
        self.assertEqual((lost(record), turned(record)), ((), ()))

    def test_records_made_by_hand(self):
        record = Record((1, 2, (), None), ((True,), (2,), (), ((),)), (None, None), ((), ()))
        self.assertEqual(lost(record), (2,))
        self.assertEqual(turned(record), (0, 3))


class Equality(unittest.TestCase):
    def test_attributes(self):
        record = Record((1,), ((2,),), (3, 4), ((), ((),)))
        self.assertEqual((record.sent, record.ears, record.told, record.asks), ((1,), ((2,),), (3, 4), ((), ((),))))

    def test_other_records(self):
        record = Record((1,), ((2,),), (3, [4]), ((), ((),)))
        self.assertTrue(record == Record((1,), ((2,),), (3, [4]), ((), ((),))))
        self.assertFalse(record != Record((1,), ((2,),), (3, [4]), ((), ((),))))
        # as Python compares
        self.assertTrue(record == Record((True,), ((2,),), (3, [4]), ((), ((),))))
        unlike = [
            Record((0,), ((2,),), (3, [4]), ((), ((),))), Record((1,), ((),), (3, [4]), ((), ((),))),
            Record((1,), ((2,),), (3, [5]), ((), ((),))), Record((1,), ((2,),), (3, [4]), ((), ())),
        ]
        for other in unlike:
            self.assertFalse(record == other)
            self.assertTrue(record != other)

    def test_other_things(self):
        record = Record((), (), (), ())
        alike = Foreign()
        alike.sent = alike.ears = alike.told = alike.asks = ()
        for thing in [alike, ((), (), (), ()), Hand(len, len), NONE, *odd_things()]:
            if not isinstance(thing, Record):
                self.assertFalse(record == thing)
                self.assertFalse(thing == record)
                self.assertTrue(record != thing)


if __name__ == "__main__":
    unittest.main()
