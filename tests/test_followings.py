"""7.2 and 3.4: runs of Whole, in which what it wrote itself is not gone through again."""

import random
import unittest

from tests.own import own_run, random_schedule, same
from turnedtalk.bars import by_turns
from turnedtalk.breaks import breaking, is_break
from turnedtalk.faults import Faults, Hearing
from turnedtalk.houses import Table, Voice, talk
from turnedtalk.records import carried, lost, turned
from turnedtalk.schedules import Schedule, both_line, net_schedule, turns_line
from turnedtalk.wholes import Whole

HOUSES = tuple(Voice(lambda row, name=name: name + str(len("".join(row)) % 3)) for name in "abcd")


class OtherFaults(Faults):
    """Faults that turn whatever they don't lose."""

    def ear(self, letter, thing):
        told = Faults.ear(self, letter, thing)
        return told and ((told[0], "turned"),)


class OtherWhole(Whole):
    """A Whole that writes and tells otherwise."""

    def write(self, house, heard, ask, letter):
        return (Whole.write(self, house, heard, ask, letter), letter)

    def tell(self, house, heard, ask):
        return (house, *Whole.tell(self, house, heard, ask))


def with_flags(thing):
    """The same with flags in the place of 0 and 1."""
    if isinstance(thing, tuple):
        return tuple(with_flags(part) for part in thing)
    return {0: False, 1: True}.get(thing, thing) if isinstance(thing, int) else thing


class Runs(unittest.TestCase):
    def check(self, schedule, manner, turner):
        houses = HOUSES[:schedule.many]
        record = carried(schedule, houses, manner, turner)
        sent, ears, told, _ = own_run(schedule, houses, manner, turner)
        self.assertTrue(same((record.sent, record.ears, record.told), (sent, ears, told)))
        return sent

    def drawn(self, chance):
        many = chance.randint(2, 4)
        schedule = random_schedule(chance, many, chance.randint(1, 9), 5)
        order = tuple(chance.randrange(many) for _ in range(chance.randint(1, 4)))
        return schedule, Whole(schedule, order, chance.randrange(2), chance.randrange(3))

    def test_the_same_as_letter_by_letter(self):
        chance = random.Random(721)
        for _ in range(250):
            schedule, manner = self.drawn(chance)
            sent = self.check(schedule, manner, Faults((), ()))
            letters = range(len(schedule.letters))
            into = {}
            for letter in letters:
                if chance.random() < 0.3:
                    thing = chance.choice(sent)
                    into[letter] = chance.choice([thing, with_flags(thing), None, (thing, 1), sent[letter], with_flags(sent[letter])])
            away = tuple(letter for letter in letters if chance.random() < 0.2)
            turned = tuple((letter, thing) for letter, thing in sorted(into.items(), key=lambda pair: pair[0]) if letter not in away)
            faults = Faults(away, turned)
            self.check(schedule, manner, faults)
            self.check(schedule, manner, Hearing(faults.ear))
            self.check(schedule, manner, OtherFaults(away, turned))
            self.check(schedule, OtherWhole(schedule, manner.order, manner.lost, manner.turned), faults)
            equal = Schedule(schedule.many, schedule.letters)
            self.check(equal, manner, faults)

    def test_classes_that_are_called_alike(self):
        line = turns_line(4)
        faults = type("Faults", (), {"ear": lambda self, letter, thing: (("turned", letter),)})()
        whole = type("Whole", (), {
            "schedule": line, "write": lambda self, house, heard, ask, letter: heard, "tell": lambda self, house, heard, ask: house,
        })()
        for manner in [whole, Whole(line, (0, 1), 0, 1)]:
            for turner in [faults, Faults((1,), ((2, None),))]:
                self.check(line, manner, turner)

    def test_what_was_turned(self):
        line = turns_line(5)
        sent = self.check(line, Whole(line, (0, 1), 0, 1), Faults((), ()))
        for into in [with_flags(sent[2]), sent[2], sent[0], None]:
            for turner in [Faults((1,), ((2, into),)), Hearing(Faults((1,), ((2, into),)).ear)]:
                record = carried(line, HOUSES[:2], Whole(line, (0, 1), 0, 1), turner)
                self.assertEqual(turned(record), () if same(record.sent[2], into) else (2,))
        for schedule in [turns_line(60), both_line(30)]:
            record = carried(schedule, HOUSES[:2], Whole(schedule, (0, 1), 0, 1), Faults((3,), ((5, None), (8, ()))))
            self.assertEqual((lost(record), turned(record)), ((3,), (5, 8)))

    def test_a_turner_that_turns_into_what_is_equal_in_python_alone(self):
        for turner in [Hearing(lambda letter, thing: (with_flags(thing),)), Hearing(lambda letter, thing: (thing,))]:
            for schedule in [turns_line(5), both_line(3), net_schedule(3, ((0, 1), (1, 2)), 2)]:
                self.check(schedule, Whole(schedule, (0, 1, 0), 0, 1), turner)

    def test_sixty_letters(self):
        for schedule, order, lost_most, turned_most in [
            (turns_line(60), by_turns(30), 1, 1), (both_line(30), by_turns(10), 0, 1), (turns_line(60), (1, 0, 0), 0, 0),
            (net_schedule(3, ((0, 1), (1, 2)), 15), (0, 2, 1), 1, 0),
        ]:
            houses = HOUSES[:schedule.many]
            faults = Faults((9,)[:lost_most], ((20, ("x",)),)[:turned_most])
            record = carried(schedule, houses, Whole(schedule, order, lost_most, turned_most), faults)
            self.assertEqual(record.told, (talk(houses, order),) * schedule.many)
            self.assertEqual(lost(record), faults.lost)

    def test_breaks_of_it(self):
        for schedule, order, goal, lost_most, turned_most in [
            (turns_line(22), by_turns(20), 1, 0, 1), (turns_line(20), by_turns(18), 1, 2, 0), (both_line(10), by_turns(10), 0, 1, 0),
        ]:
            manner = Whole(schedule, order, lost_most, turned_most)
            thing = breaking(schedule, order, goal, lost_most, turned_most, manner)
            self.assertIs(is_break(schedule, order, goal, lost_most, turned_most, manner, thing), True)

    def test_houses_that_raise(self):
        class Wall(Exception):
            pass

        def word(row):
            raise Wall

        schedule = turns_line(3)
        with self.assertRaises(Wall):
            carried(schedule, (Voice(word), Table((), "a")), Whole(schedule, (0,), 0, 0), Faults((), ()))


if __name__ == "__main__":
    unittest.main()
