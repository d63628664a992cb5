"""12.2: SavedEars, their disks, and falls."""

import random
import unittest

from tests.odd import odd_things
from tests.own import same
from tests.own_ears import is_claims
from tests.own_states import is_own_thing
from tests.test_ears import COUNTING, HOUSES, NO_COUNTS, Channel, talk_of, wrong_thing
from turnedtalk.disks import Disk, read_line, record_line
from turnedtalk.ears import Ear, least_window
from turnedtalk.errors import NoDisk, NoEar, NoHouse, NoNumber, NotNow
from turnedtalk.houses import Table, Voice
from turnedtalk.savings import SavedEar

A = Table((), "a")
WROTE = record_line(("wrote",))
LOST = record_line(("heard", ()))
JUNK = record_line(("heard", (None,)))


def disk_of(lines, synced=0):
    disk = Disk()
    for at, line in enumerate(lines):
        if at == synced:
            disk.sync()
        disk.write(line)
    if synced >= len(lines):
        disk.sync()
    return disk


def state(disk):
    return disk.lines(), disk.synced()


def knows(ear):
    return ear.sure(), ear.kept(), ear.beat()


def next_letters(ear, many):
    """What the ear writes next, the letters to it being lost; of a copy, so that it stays as it is."""
    told = []
    for _ in range(many):
        try:
            told.append(ear.letter())
        except NotNow:
            try:
                ear.hear(())
            except NotNow:
                told.append("end")
    return told


class Beside(unittest.TestCase):
    def go(self, seed, lost, turned, letters):
        """A SavedEar and an Ear of each house that hear the same."""
        chance = random.Random(seed)
        window = least_window(lost, turned) + chance.randrange(3)
        plain = [Ear(number, HOUSES[number], window, lost, turned) for number in (0, 1)]
        saved = [SavedEar(number, HOUSES[number], window, lost, turned, Disk()) for number in (0, 1)]
        noted = ([], [])
        channel = Channel(chance, window, lost, turned, 0.6)
        written = []
        for at in range(letters):
            writer, hearer = at % 2, 1 - at % 2
            thing = saved[writer].letter()
            self.assertTrue(same(thing, plain[writer].letter()))
            noted[writer].append(("wrote",))
            self.assertEqual(state(saved[writer].disk()), ([record_line(note) for note in noted[writer]], len(noted[writer])))
            kind = channel.next()
            ear = {"true": (thing,), "lost": (), "turned": (wrong_thing(chance, plain[hearer], thing, written),)}[kind]
            written.append(thing)
            known = len(plain[hearer].sure())
            self.assertIsNone(saved[hearer].hear(ear))
            noted[hearer].append(("heard", ear if ear == () or self.is_pair(ear[0], known) else (None,)))
            plain[hearer].hear(ear)
            synced = max([0] + [place + 1 for place, note in enumerate(noted[hearer]) if note == ("wrote",)])
            self.assertEqual(state(saved[hearer].disk()), ([record_line(note) for note in noted[hearer]], synced))
            for number in (0, 1):
                self.assertEqual(knows(saved[number]), knows(plain[number]))
        for number in (0, 1):
            disk = saved[number].disk()
            again = SavedEar(number, HOUSES[number], window, lost, turned, disk)
            self.assertEqual(knows(again), knows(plain[number]))
            self.assertEqual(state(again.disk()), state(disk))
            self.assertEqual(next_letters(again, 6), next_letters(plain[number], 6))

    def is_pair(self, thing, known):
        """A pair of a number, of at most so many, and a claim thing."""
        if not isinstance(thing, tuple) or len(thing) != 2 or type(thing[0]) is not int:
            return False
        return 0 <= thing[0] <= known and is_claims(thing[1])

    def test_the_same_as_an_ear(self):
        for lost, turned in [(0, 0), (1, 0), (0, 1), (1, 1), (2, 1), (0, 2)]:
            for seed in range(5):
                self.go(f"{seed} {lost} {turned}", lost, turned, 36)

    def test_what_is_noted_of_odd_ears(self):
        deep = ()
        for _ in range(280):
            deep = (deep,)
        for thing in [deep, 5, "x", (1, ()), (0, ((), "w")), ("0", ()), (True, ()), (0, (((), "w\n"),)), (10 ** 20 - 1, ())]:
            ear = SavedEar(1, A, 5, 0, 0, Disk())
            ear.hear((thing,))
            self.assertEqual(state(ear.disk()), ([JUNK], 0))
        for thing in [(0, ()), (0, (((), "w"),)), (0, ((("far",) * 400, "w"),))]:
            ear = SavedEar(1, A, 5, 0, 0, Disk())
            ear.hear((thing,))
            self.assertEqual(state(ear.disk()), ([record_line(("heard", (thing,)))], 0))
            ear.letter()
            # what is sure then tells whether it is such a pair
            ear.hear(((1, ()),))
            told = JUNK if thing != (0, (((), "w"),)) else record_line(("heard", ((1, ()),)))
            self.assertEqual(ear.disk().lines()[2], told)


class Disks(unittest.TestCase):
    def test_the_disk_is_a_copy(self):
        disk = disk_of([LOST, WROTE, LOST], 2)
        before = state(disk)
        ear = SavedEar(1, A, 5, 0, 0, disk)
        self.assertEqual(state(ear.disk()), before)
        ear.letter()
        self.assertEqual(state(disk), before)
        disk.drop(0)
        told = ear.disk()
        self.assertEqual(state(told), ([LOST, WROTE, LOST, WROTE], 4))
        told.drop(0)
        told.write("x")
        self.assertEqual(state(ear.disk()), ([LOST, WROTE, LOST, WROTE], 4))
        self.assertIsInstance(told, Disk)

    def check(self, number, lines, many):
        """Of these lines so many count, whichever of them wait."""
        for synced in range(len(lines) + 1):
            disk = disk_of(lines, synced)
            before = state(disk)
            ear = SavedEar(number, COUNTING[number], 9, 0, 1, disk)
            self.assertEqual(state(disk), before)
            self.assertEqual(state(ear.disk()), (lines[:many], min(many, synced)))
            self.assertEqual(ear.beat(), many)
            plain = Ear(number, COUNTING[number], 9, 0, 1)
            for line in lines[:many]:
                thing, = read_line(line)
                if thing == ("wrote",):
                    plain.letter()
                else:
                    plain.hear(thing[1])
            self.assertEqual(knows(ear), knows(plain))
            self.assertEqual(next_letters(ear, 5), next_letters(plain, 5))

    def test_lines_that_count(self):
        claims = record_line(("heard", ((0, (((), "w"),)),)))
        for number, lines in [
            (0, []), (0, [WROTE]), (0, [WROTE, LOST, WROTE, JUNK]), (1, [LOST, WROTE]), (1, [claims, WROTE, claims, WROTE, LOST]),
        ]:
            self.check(number, lines, len(lines))

    def test_lines_out_of_turn(self):
        self.check(0, [LOST], 0)
        self.check(1, [WROTE], 0)
        self.check(1, [LOST, LOST, WROTE], 1)
        self.check(0, [WROTE, WROTE], 1)
        self.check(0, [WROTE, LOST, LOST, WROTE], 2)

    def test_lines_that_are_none(self):
        for bad in [
            "", "x", WROTE + " ", WROTE[:-1], "('wrote')", record_line(None), record_line("wrote"), record_line(("wrote", ())),
            record_line(("wrote", None)), record_line(("heard",)), record_line(("heard", None)), record_line(("heard", (1, 2))),
            record_line(("heard", (), ())), record_line(("Heard", ())), record_line(()), record_line((("wrote",),)), "('wrote') 5",
            record_line(("heard", "")), record_line(("wrote\n",)), LOST[1:],
        ]:
            self.check(0, [bad, WROTE], 0)
            self.check(0, [WROTE, bad, LOST], 1)
            self.check(1, [LOST, bad], 1)
            self.check(1, [LOST, WROTE, bad, LOST, WROTE], 2)

    def test_any_ear_counts(self):
        # also such as are never noted
        for thing in [5, "x", (1, 2, 3), (99, ()), ("0", ())]:
            self.check(1, [record_line(("heard", (thing,))), WROTE], 2)

    def test_lines_behind_the_end(self):
        claims = tuple((talk_of(COUNTING, many), f"x{many}") for many in range(0, 400, 2))
        full = record_line(("heard", ((0, claims),)))
        for synced in range(4):
            ear = SavedEar(1, COUNTING[1], 9, 0, 0, disk_of([full, WROTE, LOST], synced))
            self.assertEqual(len(ear.sure()), 400)
            self.assertEqual(state(ear.disk()), ([full], min(1, synced)))
            for call in (ear.letter, lambda: ear.hear(()), lambda: ear.down(1)):
                with self.assertRaises(NotNow):
                    call()
            with self.assertRaises(NoNumber):
                ear.down(0)
            self.assertEqual(state(ear.disk()), ([full], min(1, synced)))


class Down(unittest.TestCase):
    def test_noted_as_lost(self):
        for number in (0, 1):
            for before in range(4):
                for letters in [1, 2, 3, 7, 200]:
                    ear = SavedEar(number, COUNTING[number], 9, 1, 1, Disk())
                    plain = Ear(number, COUNTING[number], 9, 1, 1)
                    for at in range(before):
                        for one in (ear, plain):
                            if at % 2 == number:
                                one.letter()
                            else:
                                one.hear(((0, (((), "w"),)),))
                    lines, synced = state(ear.disk())
                    self.assertIsNone(ear.down(letters))
                    for at in range(before, before + letters):
                        if at % 2 == number:
                            plain.letter()
                            lines.append(WROTE)
                        else:
                            plain.hear(())
                            lines.append(LOST)
                    self.assertEqual(state(ear.disk()), (lines, synced))
                    self.assertEqual(knows(ear), knows(plain))
                    self.assertEqual(next_letters(ear, 5), next_letters(plain, 5))

    def test_no_number(self):
        ear = SavedEar(0, A, 9, 1, 1, Disk())
        for letters in [0, -1, 201, True, False, None, "1", (1,), [1], 10 ** 20 - 1, *odd_things()]:
            with self.assertRaises(NoNumber):
                ear.down(letters)
        self.assertEqual((state(ear.disk()), knows(ear)), (([], 0), (("a",), 1, 0)))

    def test_a_house_that_raises(self):
        class Wall(Exception):
            pass

        def word(row):
            if wall and row == ("w", "y", "v"):
                raise Wall
            return "y"

        # an own word that is not asked for until its turn comes
        wall = []
        ear = SavedEar(1, Voice(word), 9, 0, 1, Disk())
        ear.hear(((0, (((), "w"), (("w", "y"), "v"))),))
        before = (state(ear.disk()), ear.sure(), ear.beat())
        wall.append(True)
        for call in (lambda: ear.down(3), ear.letter, lambda: ear.down(1)):
            with self.assertRaises(Wall):
                call()
        self.assertEqual((state(ear.disk()), ear.sure(), ear.beat()), before)
        wall.pop()
        ear.down(3)
        self.assertEqual(ear.beat(), 4)


class Errors(unittest.TestCase):
    def test_making(self):
        for number in [-1, 2, True, False, None, "0", (0,), [0], 10 ** 20 - 1]:
            with self.assertRaises(NoHouse):
                SavedEar(number, A, None, None, None, None)
        for window in [0, 201, -1, True, None, "7", (7,), [7], 10 ** 20 - 1]:
            with self.assertRaises(NoNumber):
                SavedEar(0, A, window, 0, 0, None)
        for count in NO_COUNTS:
            for lost, turned in [(count, 0), (0, count)]:
                with self.assertRaises(NoNumber):
                    SavedEar(1, A, 7, lost, turned, None)
        for disk in odd_things():
            if not isinstance(disk, Disk):
                with self.assertRaises(NoDisk):
                    SavedEar(1, A, 7, 0, 0, disk)
        for disk in [[], ["('wrote') 1"], Disk, (Disk(),), Ear(0, A, 1, 0, 0)]:
            with self.assertRaises(NoDisk):
                SavedEar(0, A, 200, 8, 8, disk)

    def test_not_now_and_no_ear(self):
        for number in (0, 1):
            ear = SavedEar(number, A, 7, 1, 1, Disk())
            for at in range(6):
                before = (state(ear.disk()), knows(ear))
                for thing in odd_things():
                    for wrong in [thing, (thing, thing), [thing], (thing,)]:
                        if isinstance(wrong, tuple) and len(wrong) <= 1 and all(is_own_thing(part) for part in wrong):
                            continue
                        with self.assertRaises(NoEar):
                            ear.hear(wrong)
                with self.assertRaises(NotNow):
                    if at % 2 == number:
                        ear.hear(((0, (((), "x"),)),))
                    else:
                        ear.letter()
                self.assertEqual((state(ear.disk()), knows(ear)), before)
                if at % 2 == number:
                    ear.letter()
                else:
                    ear.hear(())


class Falls(unittest.TestCase):
    """The fact of falls: an Ear for which just the letters were lost that its disk does not tell."""

    def fall(self, chance, saved, number, window, lost, turned, went):
        """The SavedEar made of its disk, cut anywhere, and told of what went since."""
        disk = saved.disk()
        waiting = disk.lines()[disk.synced():]
        disk.cut(tuple(chance.choice([0, len(line), len(line), chance.randint(0, len(line))]) for line in waiting))
        again = SavedEar(number, HOUSES[number], window, lost, turned, disk)
        known = again.beat()
        for at in range(known, len(went)):
            went[at] = ()
        plain = Ear(number, HOUSES[number], window, lost, turned)
        for at, ear in enumerate(went):
            if at == known:
                self.assertEqual(knows(again), knows(plain))
            if at % 2 == number:
                plain.letter()
            else:
                plain.hear(ear)
        missed = len(went) - known
        while missed > 0:
            step = min(missed, 200) if chance.random() < 0.5 else 1
            again.down(step)
            missed -= step
        self.assertEqual(knows(again), knows(plain))
        return again, plain

    def test_falls(self):
        for lost, turned in [(1, 0), (2, 0), (0, 1), (1, 1), (2, 1)]:
            for seed in range(12):
                chance = random.Random(f"{seed} {lost} {turned}")
                window = least_window(lost, turned)
                plain = [Ear(number, HOUSES[number], window, lost, turned) for number in (0, 1)]
                saved = [SavedEar(number, HOUSES[number], window, lost, turned, Disk()) for number in (0, 1)]
                went = ([], [])
                written = []
                true = talk_of(HOUSES, 60)
                for at in range(40):
                    writer, hearer = at % 2, 1 - at % 2
                    if chance.random() < 0.2:
                        number = chance.randrange(2)
                        saved[number], plain[number] = self.fall(
                            chance, saved[number], number, window, lost, turned, went[number]
                        )
                    thing = saved[writer].letter()
                    self.assertTrue(same(thing, plain[writer].letter()))
                    ear = (thing,)
                    if chance.random() < 0.15:
                        ear = chance.choice([(), (wrong_thing(chance, plain[hearer], thing, written),)])
                    written.append(thing)
                    went[writer].append(None)
                    went[hearer].append(ear)
                    saved[hearer].hear(ear)
                    plain[hearer].hear(ear)
                    for number in (0, 1):
                        self.assertEqual(knows(saved[number]), knows(plain[number]))
                self.assertEqual(plain[0].sure()[:1], true[:1])

    def test_its_own_letters_are_noted_ahead_of_being_told(self):
        ear = SavedEar(0, A, 5, 1, 0, Disk())
        for at in range(8):
            if at % 2 == 0:
                ear.letter()
                disk = ear.disk()
                self.assertEqual(disk.synced(), at + 1)
            else:
                ear.hear(((0, ((("a",), "b"),)),))
                self.assertEqual(ear.disk().synced(), at)
        # of a hearing that was cut nothing is known
        disk = ear.disk()
        disk.cut((len(disk.lines()[-1]) - 1,))
        again = SavedEar(0, A, 5, 1, 0, disk)
        self.assertEqual(again.beat(), 7)


if __name__ == "__main__":
    unittest.main()
