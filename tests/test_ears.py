"""10.1 and 10.2: Ears, the least window, and what blurs."""

import random
import unittest

from tests.odd import nested_tuple, odd_things
from tests.own import same
from tests.own_ears import Gone, OwnEar
from tests.own_states import is_own_thing
from turnedtalk.ears import Ear, blur, least_window
from turnedtalk.errors import NoEar, NoFaults, NoHouse, NoNumber, NotNow
from turnedtalk.houses import Table, Voice

NO_COUNTS = [-1, 9, 10 ** 20 - 1, True, False, None, "1", (1,), [1], b"1"]
A = Table((), "a")
COUNTING = (Voice(lambda row: f"x{len(row)}"), Voice(lambda row: f"y{len(row)}"))


def choosing(letter):
    """A house whose words hang on the last two words of the row."""
    return Voice(lambda row: letter + str((len("".join(row[-2:])) * 7 + len(row) + sum(map(ord, "".join(row[-2:])))) % 3))


HOUSES = (choosing("a"), choosing("b"))


def talk_of(houses, words):
    row = ()
    while len(row) < words:
        row += (houses[len(row) % 2].word(row),)
    return row


class Channel:
    """Which letters are lost or turned: at most so many in each window."""

    def __init__(self, chance, window, lost, turned, often):
        self.chance = chance
        self.window = window
        self.most = {"lost": lost, "turned": turned}
        self.often = often
        self.went = []

    def next(self):
        last = self.went[max(0, len(self.went) - self.window + 1):]
        kind = self.chance.choice(["lost", "turned"])
        if self.chance.random() > self.often or last.count(kind) >= self.most[kind]:
            kind = "true"
        self.went.append(kind)
        return kind


def wrong_thing(chance, ear, thing, written):
    """What a letter may be turned into, ear being that of the house that hears it."""
    sure = ear.sure()
    base = chance.randint(0, len(sure))
    ahead = talk_of(HOUSES, len(sure) + chance.randint(0, 6))
    rows = {ahead[base:at] for at in range(base, len(ahead) + 1) if chance.random() < 0.5}
    rows |= {tuple(chance.choice(["a0", "b1", "q"]) for _ in range(chance.randrange(4))) for _ in range(2)}
    claims = tuple((row, chance.choice(["a0", "b0", "b1", "a2", "wrong", ""])) for row in sorted(rows))
    true_base, true_claims = thing
    return chance.choice([
        (base, claims),
        (base, claims),
        (len(sure) + 1, true_claims),
        (true_base, tuple((row, word + "~") for row, word in true_claims)),
        (true_base, tuple((row, "b0") for row, _ in true_claims)),
        (true_base, tuple(reversed(true_claims))),
        (True, true_claims),
        (str(true_base), true_claims),
        (-1, true_claims),
        (true_base, true_claims, ()),
        true_claims,
        None,
        chance.choice(written) if written else (0, ()),
        (true_base, ()),
    ])


class OwnAccount(unittest.TestCase):
    def check(self, ear, own):
        self.assertEqual(ear.sure(), own.row)
        self.assertEqual(ear.kept(), len(own.tree()))
        self.assertEqual(ear.beat(), len(own.history))

    def go(self, seed, window, lost, turned, letters, often, faults=None):
        chance = random.Random(seed)
        ears = [Ear(number, HOUSES[number], window, lost, turned) for number in (0, 1)]
        owns = [OwnEar(number, HOUSES[number], window, lost, turned) for number in (0, 1)]
        channel = Channel(chance, window, *(faults or (lost, turned)), often)
        written = []
        for at in range(letters):
            writer, hearer = at % 2, 1 - at % 2
            if chance.random() < 0.1:
                # a copy goes on as well
                ears = [ear.copy() for ear in ears]
            thing = ears[writer].letter()
            self.assertTrue(same(thing, owns[writer].letter()))
            self.check(ears[writer], owns[writer])
            kind = channel.next()
            ear = (thing,) if kind == "true" else ()
            if kind == "turned":
                ear = (wrong_thing(chance, ears[hearer], thing, written),)
            written.append(thing)
            self.assertIsNone(ears[hearer].hear(ear))
            owns[hearer].hear(ear)
            self.check(ears[hearer], owns[hearer])
        return ears

    def test_few_faults(self):
        for lost, turned in [(0, 0), (1, 0), (2, 0), (0, 1), (1, 1), (2, 1), (0, 2), (1, 2), (2, 2)]:
            for more in (0, 1, 5):
                for seed in range(4):
                    window = least_window(lost, turned) + more
                    self.go(f"{seed} {lost} {turned} {more}", window, lost, turned, 40, 0.8)

    def test_more_faults_than_are_let(self):
        for seed in range(60):
            chance = random.Random(seed)
            lost, turned = chance.randrange(3), chance.randrange(3)
            window = chance.randint(1, 12)
            self.go(seed, window, lost, turned, 24, 0.7, (chance.randrange(4), chance.randrange(4)))

    def test_long_talks(self):
        self.go(1, 7, 1, 1, 150, 0.6)
        self.go(2, 200, 3, 0, 120, 0.9, (30, 0))


class What(unittest.TestCase):
    def test_nothing_but_own_words_at_first(self):
        self.assertEqual(Ear(0, COUNTING[0], 1, 0, 0).sure(), ("x0",))
        self.assertEqual(Ear(1, COUNTING[1], 1, 0, 0).sure(), ())
        for number, kept in [(0, 1), (1, 1)]:
            ear = Ear(number, A, 200, 8, 8)
            self.assertEqual((ear.kept(), ear.beat()), (kept, 0))

    def test_first_letters(self):
        one, other = Ear(0, COUNTING[0], 7, 0, 1), Ear(1, COUNTING[1], 7, 0, 1)
        first = one.letter()
        self.assertEqual(first, (0, (((), "x0"),)))
        other.hear((first,))
        self.assertEqual((other.sure(), other.kept()), ((), 3))
        second = other.letter()
        self.assertEqual(second, (0, ((("x0",), "y1"),)))
        one.hear((second,))
        self.assertEqual((one.sure(), one.kept()), (("x0",), 3))
        third = one.letter()
        self.assertEqual(third, (0, (((), "x0"), (("x0", "y1"), "x2"))))
        other.hear((third,))
        self.assertEqual((other.sure(), other.kept()), (("x0", "y1"), 3))
        self.assertEqual((other.beat(), one.beat()), (3, 3))

    def test_base_counts_letters_that_were_written(self):
        # of its first word 2 turned + lost + 1 letters, whether they were heard or not
        for lost, turned in [(0, 0), (3, 0), (0, 2), (2, 1)]:
            ear = Ear(0, COUNTING[0], 200, lost, turned)
            needed = 2 * turned + lost + 1
            for at in range(needed + 3):
                written = (0, (((), "x0"),)) if at < needed else (1, ())
                self.assertEqual(ear.letter(), written)
                ear.hear(())

    def test_two_and_more_words_at_one_letter(self):
        ear = Ear(1, COUNTING[1], 9, 0, 0)
        claims = tuple((talk_of(COUNTING, many), f"x{many}") for many in (0, 2, 4, 6))
        ear.hear(((0, claims),))
        self.assertEqual(ear.sure(), talk_of(COUNTING, 8))
        ear = Ear(1, COUNTING[1], 9, 0, 1)
        for base in (0, 0):
            self.assertEqual(ear.sure(), ())
            ear.hear(((base, claims),))
            if ear.beat() < 2:
                ear.letter()
        self.assertEqual(ear.sure(), talk_of(COUNTING, 8))

    def test_of_several_words_the_least(self):
        ear = Ear(1, COUNTING[1], 9, 0, 1)
        for word in ["x", "b", "c", "b", "x"]:
            if ear.sure() == ():
                ear.hear(((0, (((), word),)),))
                ear.letter()
        self.assertEqual(ear.sure(), ("b", "y1"))
        ear = Ear(1, COUNTING[1], 3, 0, 0)
        # both come with the row ahead of them
        ear.hear(((0, ((("s", "y1"), "z"),)),))
        ear.letter()
        ear.hear(((0, (((), "s"), (("s", "y1"), "m"))),))
        self.assertEqual(ear.sure(), ("s", "y1", "m", "y3"))

    def test_only_the_last_window(self):
        for window in (1, 2, 3, 4, 5):
            ear = Ear(1, A, window, 0, 1)
            ear.hear(((0, (((), "w"),)),))
            ear.letter()
            ear.hear(())
            ear.letter()
            ear.hear(((0, (((), "w"),)),))
            # letters 0 and 4 are among five letters on end
            self.assertEqual(ear.sure(), ("w", "a") if window == 5 else ())
            self.assertEqual(ear.kept(), 1 if window == 5 else 3)

    def test_a_claim_that_came_ahead_of_its_row(self):
        ear = Ear(1, COUNTING[1], 9, 0, 1)
        ear.hear(((0, ((("x0", "y1"), "x2"),)),))
        ear.letter()
        self.assertEqual((ear.sure(), ear.kept()), ((), 1))
        ear.hear(((0, (((), "x0"), (("x0", "y1"), "x2"))),))
        self.assertEqual(ear.sure(), ())
        ear.letter()
        ear.hear(((0, (((), "x0"),)),))
        self.assertEqual(ear.sure(), ("x0", "y1", "x2", "y3"))

    def test_claims_at_own_turns_play_no_part(self):
        ear = Ear(0, COUNTING[0], 9, 0, 0)
        ear.letter()
        ear.hear(((0, (((), "no"), (("no",), "no"), (("x0", "q"), "no"))),))
        self.assertEqual((ear.sure(), ear.kept()), (("x0",), 1))

    def test_the_base_of_what_is_heard(self):
        for base, told in [(0, ()), (1, ()), (2, ("x2", "y3")), (3, ()), (10 ** 20 - 1, ()), (True, ()), (-1, ())]:
            ear = Ear(1, COUNTING[1], 9, 0, 0)
            ear.hear(((0, (((), "x0"),)),))
            ear.letter()
            ear.hear(((base, (((), "x2"),)),))
            self.assertEqual(ear.sure(), ("x0", "y1", *told), base)
        ear = Ear(1, COUNTING[1], 9, 0, 0)
        ear.hear(((0, (((), "x0"),)),))
        ear.letter()
        ear.hear(((1, ((("y1",), "x2"),)),))
        self.assertEqual(ear.sure(), ("x0", "y1", "x2", "y3"))

    def test_things_that_claim_nothing(self):
        right = (((), "w"),)
        for thing in [
            None, 0, "w", (), (0,), right, (0, right, 0), (0, right[0]), ("0", right), (None, right), (False, right),
            (0, ((("w",), "v"), ((), "w"))), (0, (((), "w"), ((), "w"))), (0, (((), "w", 0),)), (0, ((("w",),),)),
            (0, (((), 1),)), (0, (((1,), "w"),)), (0, (((), "w\n"),)), (0, (((), "w" * 41),)), (0, ((("",) * 401, "w"),)),
            (0, None), (0, "w"), (right, 0), (1, right), nested_tuple(300),
        ]:
            ear = Ear(1, A, 9, 0, 0)
            ear.hear((thing,))
            self.assertEqual((ear.sure(), ear.kept(), ear.beat()), ((), 1, 1), thing)
        # what is beside claims that are far behind is none the less claimed
        ear = Ear(1, A, 9, 0, 0)
        ear.hear(((0, (((), "w"), (("z",) * 400, "w"))),))
        self.assertEqual(ear.sure(), ("w", "a"))


class End(unittest.TestCase):
    def full(self, words):
        """An Ear of house 1 to which so many words, an even number, are sure."""
        ear = Ear(1, COUNTING[1], 9, 0, 0)
        row = talk_of(COUNTING, 400)
        ear.hear(((0, tuple((row[:many], row[many]) for many in range(0, words, 2))),))
        self.assertEqual(ear.sure(), row[:words])
        return ear

    def test_not_now_when_all_is_sure(self):
        ear = self.full(400)
        self.assertEqual((ear.kept(), ear.beat()), (1, 1))
        for thing in [(), (None,), ((0, ()),)]:
            with self.assertRaises(NotNow):
                ear.hear(thing)
        with self.assertRaises(NotNow):
            ear.letter()
        with self.assertRaises(NoEar):
            ear.hear(None)
        self.assertEqual((ear.sure(), ear.kept(), ear.beat()), (talk_of(COUNTING, 400), 1, 1))
        with self.assertRaises(NotNow):
            ear.copy().letter()

    def test_claims_behind_the_end(self):
        row = talk_of(COUNTING, 400)
        ear = self.full(398)
        ear.letter()
        self.assertEqual(ear.kept(), 1)
        ear.hear(((398, (((), "p"), (("p", "y399"), "x"), (("p", "y399", "x", "y"), "x"))),))
        self.assertEqual(ear.sure(), (*row[:398], "p", "y399"))

    def test_rows_of_400_words_are_in_the_tree(self):
        turned = Ear(1, COUNTING[1], 9, 0, 1)
        claims = tuple((talk_of(COUNTING, many), f"x{many}") for many in range(0, 400, 2))
        turned.hear(((0, claims),))
        self.assertEqual((turned.sure(), turned.kept()), ((), 401))
        first = turned.letter()
        self.assertEqual((first[0], len(first[1])), (0, 200))
        self.assertEqual(first[1][-1], (talk_of(COUNTING, 399), "y399"))
        turned.hear(((0, (*claims, (("z",) * 400, "x"))),))
        self.assertEqual(turned.sure(), talk_of(COUNTING, 400))

    def test_till_the_end(self):
        one, other = Ear(0, HOUSES[0], 3, 1, 0), Ear(1, HOUSES[1], 3, 1, 0)
        row = talk_of(HOUSES, 400)
        with self.assertRaises(NotNow):
            for at in range(2000):
                ears = (one, other) if at % 2 == 0 else (other, one)
                thing = ears[0].letter()
                # the base keeps letters short
                self.assertLess(len(thing[1]), 6)
                ears[1].hear(() if at % 3 == 1 else (thing,))
        self.assertEqual(400, max(len(one.sure()), len(other.sure())))
        self.assertEqual((one.sure(), other.sure()), (row[:len(one.sure())], row[:len(other.sure())]))


class Errors(unittest.TestCase):
    def test_making(self):
        for number in [-1, 2, True, False, None, "0", (0,), [0], 10 ** 20 - 1]:
            for rest in [(7, 0, 0), (0, 0, 0), (None, None, None)]:
                with self.assertRaises(NoHouse):
                    Ear(number, A, *rest)
        for window in [0, 201, -1, True, None, "7", (7,), [7], 10 ** 20 - 1]:
            with self.assertRaises(NoNumber):
                Ear(0, A, window, 0, 0)
        for count in NO_COUNTS:
            for lost, turned in [(count, 0), (0, count)]:
                with self.assertRaises(NoNumber):
                    Ear(1, A, 7, lost, turned)
        for window, count in [(1, 0), (200, 8)]:
            self.assertEqual(Ear(1, A, window, count, count).beat(), 0)

    def state(self, ear):
        """All that can be told of an Ear."""
        copied = ear.copy()
        told = [copied.sure(), copied.kept(), copied.beat()]
        for _ in range(4):
            try:
                told.append(copied.letter())
            except NotNow:
                copied.hear(())
        return told

    def test_not_now(self):
        for number in (0, 1):
            ear = Ear(number, COUNTING[number], 7, 1, 1)
            for at in range(9):
                before = self.state(ear)
                with self.assertRaises(NotNow):
                    if at % 2 == number:
                        ear.hear(((0, (((), "x0"), (("x0",), "y1"))),))
                    else:
                        ear.letter()
                self.assertEqual(self.state(ear), before)
                if at % 2 == number:
                    ear.letter()
                else:
                    ear.hear(((0, (((), "x0"), (("x0",), "y1"))),))
                self.assertEqual(ear.beat(), at + 1)

    def test_no_ear(self):
        for number in (0, 1):
            ear = Ear(number, A, 7, 1, 1)
            before = self.state(ear)
            for thing in odd_things():
                for wrong in [thing, (thing, thing), [thing], (thing,)]:
                    if isinstance(wrong, tuple) and (wrong == () or len(wrong) == 1 and is_own_thing(wrong[0])):
                        continue
                    with self.assertRaises(NoEar):
                        ear.hear(wrong)
            self.assertEqual(self.state(ear), before)

    def test_what_a_house_raises_goes_on_and_changes_nothing(self):
        class Wall(Exception):
            pass

        def word(row):
            if len(row) > wall[0]:
                raise Wall
            return f"y{len(row)}"

        wall = [9]
        ear = Ear(1, Voice(word), 9, 0, 0)
        before = self.state(ear)
        wall[0] = 0
        with self.assertRaises(Wall):
            ear.hear(((0, (((), "x0"),)),))
        self.assertEqual((ear.sure(), ear.kept(), ear.beat()), ((), 1, 0))
        wall[0] = 9
        self.assertEqual(self.state(ear), before)

    def test_what_is_handed_in_stays(self):
        claims = ((("x0",), "y1"),)
        ear = ((0, claims),)
        one = Ear(0, COUNTING[0], 7, 0, 0)
        one.letter()
        one.hear(ear)
        self.assertEqual(ear, ((0, ((("x0",), "y1"),)),))


class Copies(unittest.TestCase):
    def test_they_go_on_apart(self):
        ear = Ear(1, COUNTING[1], 9, 0, 0)
        ear.hear(((0, (((), "x0"), (("x0", "y1"), "far"))),))
        copied = ear.copy()
        self.assertIsInstance(copied, Ear)
        self.assertEqual((copied.sure(), copied.kept(), copied.beat()), (ear.sure(), ear.kept(), ear.beat()))
        written = copied.letter()
        self.assertEqual((copied.beat(), ear.beat()), (2, 1))
        copied.hear(((2, (((), "other"),)),))
        self.assertEqual(ear.letter(), written)
        self.assertEqual((ear.beat(), copied.beat()), (2, 3))
        ear.hear(())
        self.assertEqual(ear.sure(), ("x0", "y1", "far", "y3"))
        self.assertEqual(ear.letter()[0], copied.letter()[0])

    def test_what_was_written_often_is_counted_apart(self):
        ear = Ear(0, A, 9, 1, 0)
        ear.letter()
        copied = ear.copy()
        for one in (ear, copied):
            one.hear(())
            self.assertEqual(one.letter(), (0, (((), "a"),)))
            one.hear(())
            self.assertEqual(one.letter(), (1, ()))

    def test_an_ear_is_equal_to_nothing_else(self):
        ear = Ear(0, A, 9, 0, 0)
        self.assertFalse(ear == A or ear == Ear(0, A, 9, 0, 0).sure())


class LeastWindow(unittest.TestCase):
    def test_numbers(self):
        self.assertEqual([least_window(0, 0), least_window(1, 1), least_window(8, 8), least_window(3, 0)], [1, 7, 49, 7])
        for lost in range(9):
            for turned in range(9):
                self.assertEqual(least_window(lost, turned), 2 * lost + 4 * turned + 1)

    def test_errors(self):
        for count in NO_COUNTS:
            for lost, turned in [(count, 0), (0, count), (count, count)]:
                with self.assertRaises(NoNumber):
                    least_window(lost, turned)
                with self.assertRaises(NoNumber):
                    blur(lost, turned)
        with self.assertRaises(NoFaults):
            blur(0, 0)


def all_blurs():
    return [(lost, turned) for lost in range(9) for turned in range(9) if lost + turned > 0]


class Blur(unittest.TestCase):
    def test_its_form(self):
        for lost, turned in all_blurs():
            pair = blur(lost, turned)
            self.assertIsInstance(pair, tuple)
            self.assertEqual(len(pair), 2)
            for words in pair:
                self.assertIsInstance(words, tuple)
                self.assertEqual(len(words), 2 * lost + 4 * turned)
                self.assertLessEqual(set(words), {"true", "lost", "turned"})
                self.assertEqual(set(words[1::2]), {"true"})
                rounds = words * 3
                for at in range(len(words) * 2):
                    window = rounds[at:at + len(words)]
                    self.assertLessEqual(window.count("lost"), lost)
                    self.assertLessEqual(window.count("turned"), turned)
            for one, other in zip(*pair):
                self.assertEqual(one == "lost", other == "lost")
            for one, other in list(zip(*pair))[::2]:
                self.assertTrue(one == "lost" or {one, other} == {"true", "turned"})

    def test_house_1_hears_the_same(self):
        for lost, turned in [(1, 0), (0, 1), (2, 1), (1, 2), (0, 3)]:
            window = least_window(lost, turned) - 1
            pair = blur(lost, turned)
            firsts = [Ear(0, Table((), word), window, lost, turned) for word in ("one", "other")]
            second = Ear(1, A, window, lost, turned)
            for at in range(5 * window):
                if at % 2 == 1:
                    thing = second.letter()
                    for first in firsts:
                        first.hear((thing,))
                    continue
                kinds = [words[at % window] for words in pair]
                things = [first.letter() for first in firsts]
                heard = []
                for run in (0, 1):
                    told = {"lost": (), "true": (things[run],), "turned": (things[1 - run],)}
                    heard.append(told[kinds[run]])
                self.assertEqual(heard[0], heard[1])
                second.hear(heard[0])
                self.assertEqual(second.sure(), ())


class Fact(unittest.TestCase):
    def go(self, seed, lost, turned, more, letters):
        """What is sure is true, never gets shorter, and comes in time."""
        chance = random.Random(seed)
        window = least_window(lost, turned) + more
        ears = [Ear(number, HOUSES[number], window, lost, turned) for number in (0, 1)]
        channel = Channel(chance, window, lost, turned, chance.choice([0.4, 0.9, 1]))
        true = talk_of(HOUSES, 80)
        first, written = {}, []
        for at in range(letters):
            writer, hearer = ears[at % 2], ears[1 - at % 2]
            before = hearer.sure()
            known = writer.sure()
            thing = writer.letter()
            for row, word in thing[1]:
                whole = known[:thing[0]] + row
                if whole == true[:len(whole)]:
                    first.setdefault(len(whole), at)
            kind = channel.next()
            ear = {"true": (thing,), "lost": (), "turned": (wrong_thing(chance, hearer, thing, written),)}[kind]
            written.append(thing)
            hearer.hear(ear)
            for one in ears:
                self.assertEqual(one.sure(), true[:len(one.sure())])
            self.assertEqual(hearer.sure()[:len(before)], before)
            for index, began in first.items():
                if at - began >= least_window(lost, turned) - 1:
                    self.assertGreater(len(ears[1 - index % 2].sure()), index)
        return min(len(ear.sure()) for ear in ears)

    def test_talks_without_end(self):
        for lost, turned in [(0, 0), (1, 0), (2, 0), (0, 1), (1, 1), (2, 1), (1, 2), (2, 2)]:
            for more in (0, 1, 4):
                for seed in range(5):
                    letters = 60
                    words = self.go(f"{seed} {lost} {turned} {more}", lost, turned, more, letters)
                    self.assertGreaterEqual(words, letters // least_window(lost, turned) - 2)


if __name__ == "__main__":
    unittest.main()
