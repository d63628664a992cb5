"""13.2: pictures of runs and of bars."""

import random
import unittest

from tests.odd import odd_things
from tests.own import random_schedule
from turnedtalk.bars import bar
from turnedtalk.errors import NoBarShown
from turnedtalk.faults import Faults
from turnedtalk.houses import Table
from turnedtalk.pictures import bar_picture, picture
from turnedtalk.records import Hand, Record, carried
from turnedtalk.schedules import Schedule, both_line, net_schedule, turns_line
from turnedtalk.votes import Votes

HOUSES = (Table((), "a"), Table((), "b"))


def own_picture(schedule, mark):
    """Line by line; mark tells the sign behind each letter."""
    text = ""
    for beat in range(1000):
        numbers = [number for number, letter in enumerate(schedule.letters) if letter[2] == beat]
        if numbers:
            shown = [f"{schedule.letters[number][0]}>{schedule.letters[number][1]}{mark(number)}" for number in numbers]
            text += f"{beat} {' '.join(shown)}\n"
    return text


class Pictures(unittest.TestCase):
    def test_forms(self):
        record = carried(turns_line(3), HOUSES, Votes((0, 1)), Faults((1,), ((2, None),)))
        self.assertEqual(picture(turns_line(3), record), "0 0>1.\n1 1>0x\n2 0>1!\n")
        record = carried(both_line(2), HOUSES, Votes((0, 1)), Faults((3,), ((0, 5), (1, 5))))
        self.assertEqual(picture(both_line(2), record), "0 0>1! 1>0!\n1 0>1. 1>0x\n")
        self.assertEqual(picture(Schedule(2, ()), carried(Schedule(2, ()), HOUSES, Votes((0,)), Faults((), ()))), "")
        far = Schedule(8, ((7, 0, 3), (0, 7, 3), (1, 2, 999)))
        houses = tuple(Table((), "a") for _ in range(8))
        silent = Hand(lambda *told: None, lambda *told: None)
        self.assertEqual(picture(far, carried(far, houses, silent, Faults((1,), ()))), "3 7>0. 0>7x\n999 1>2.\n")

    def test_by_an_own_account(self):
        chance = random.Random(1321)
        things = [None, True, False, 1, 0, "a", (), (1,), (True,), ((1, "x"),), ((True, "x"),)]
        for _ in range(300):
            many = chance.randint(2, 5)
            schedule = random_schedule(chance, many, chance.randint(0, 20), chance.choice([1, 3, 9, 40]))
            sent = tuple(chance.choice(things) for _ in schedule.letters)
            ears = tuple(chance.choice([(), (thing,), (thing,), (chance.choice(things),)]) for thing in sent)

            def mark(number):
                if ears[number] == ():
                    return "x"
                return "." if repr(ears[number][0]) == repr(sent[number]) else "!"

            record = Record(sent, ears, (None,) * many, ((),) * many)
            self.assertEqual(picture(schedule, record), own_picture(schedule, mark))

    def test_another_kind_is_turned(self):
        for thing, other in [(1, True), (0, False), (False, 0), ((1,), (True,)), ((((0,),),), (((False,),),))]:
            for into, mark in [(thing, "."), (other, "!")]:
                record = Record((thing,), ((into,),), ((), ()), ((), ()))
                self.assertEqual(picture(turns_line(1), record), f"0 0>1{mark}\n")


class BarPictures(unittest.TestCase):
    def test_forms(self):
        line = turns_line(4)
        self.assertEqual(bar_picture(line, (0, (), (0, 2))), "word 0\n0 0>1b\n1 1>0.\n2 0>1b\n3 1>0.\n")
        self.assertEqual(bar_picture(line, (12, (3,), ())), "word 12\n0 0>1.\n1 1>0.\n2 0>1.\n3 1>0a\n")
        self.assertEqual(bar_picture(both_line(1), (10 ** 20 - 1, (1,), (0,))), f"word {10 ** 20 - 1}\n0 0>1b 1>0a\n")
        self.assertEqual(bar_picture(Schedule(2, ()), (0, (), ())), "word 0\n")
        self.assertEqual(bar_picture(turns_line(5), bar(turns_line(5), (0,), 1, 0, 2))[:7], "word 0\n")

    def test_by_an_own_account(self):
        chance = random.Random(1322)
        for _ in range(300):
            schedule = random_schedule(chance, chance.randint(2, 5), chance.randint(0, 20), chance.choice([1, 3, 9]))
            signs = [chance.choice("ab..") for _ in schedule.letters]
            lots = [tuple(number for number, sign in enumerate(signs) if sign == mark) for mark in "ab"]
            index = chance.choice([0, 1, 39, 40, 12345])
            expected = f"word {index}\n" + own_picture(schedule, lambda number: signs[number])
            self.assertEqual(bar_picture(schedule, (index, *lots)), expected)

    def test_no_bar_shown(self):
        line = turns_line(4)
        wrong = [
            (), (0,), (0, ()), (0, (), (), ()), [0, (), ()], (-1, (), ()), (True, (), ()), (None, (), ()), ("0", (), ()),
            (0, [], ()), (0, (), []), (0, (4,), ()), (0, (), (4,)), (0, (-1,), ()), (0, (1, 0), ()), (0, (), (1, 1)),
            (0, (True,), ()), (0, (), (False,)), (0, (0,), (0,)), (0, (0, 1), (1, 2)), (0, (2,), (0, 2)), (0, None, ()),
            (0, (), None), (0, 1, 2), (0, "", ""), (0, ("0",), ()), (0, ((0,),), ()), (0, (10 ** 20 - 1,), ()), None, "word", {},
            {0: (), 1: (), 2: ()}, (0, {}, ()), (0, (), b""), ((0, (), ()),),
        ]
        for thing in wrong + odd_things():
            with self.assertRaises(NoBarShown, msg=repr(thing)[:80]):
                bar_picture(line, thing)
        for thing in odd_things():
            for wrong in [(thing, (), ()), (0, thing, ()), (0, (), thing), (0, (0, thing), ()), (0, (), (thing,))]:
                if wrong[0] == 10 ** 20 - 1:
                    continue
                with self.assertRaises(NoBarShown):
                    bar_picture(line, wrong)
        with self.assertRaises(NoBarShown):
            bar_picture(Schedule(2, ()), (0, (0,), ()))
        # the index needs no owner that isn't the goal, nor that the lots bar anything
        net = net_schedule(3, ((0, 2),), 1)
        self.assertEqual(bar_picture(net, (7, (0,), (1,))), "word 7\n0 0>2a 2>0b\n")


if __name__ == "__main__":
    unittest.main()
