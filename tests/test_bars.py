"""4.2 to 4.4: bars, what gets over, lines."""

import itertools
import random
import unittest
from math import comb

from tests.odd import odd_things
from tests.own import lots, own_bars, own_keeps_back, random_schedule
from turnedtalk.bars import bar, by_turns, gets_over, is_bar, least_both, least_turns
from turnedtalk.errors import NoHouse, NoNumber, NoOrder, TooMany
from turnedtalk.schedules import Schedule, both_line, net_schedule, turns_line
from turnedtalk.walks import earliest, spread

COUNTS = list(itertools.product(range(3), range(3)))
NO_COUNTS = [-1, 9, 10 ** 20 - 1, True, False, None, "0", b"0", [0], (0,), {}, (), turns_line(1)]
NO_ORDERS = [(), (2,), (0, -1), (True,), [0], [], (0,) * 41, None, 0, "0", {}, (0, None), *odd_things()]
NO_HOUSES = [2, -1, True, False, None, "0", [0], (0,), {}, 10 ** 20 - 1, *odd_things()]


def some_schedule(chance, most):
    many = chance.randint(2, 4)
    return random_schedule(chance, many, chance.randint(1, most), chance.randint(1, 8))


def some_order(chance, many):
    return tuple(chance.randrange(many) for _ in range(chance.randint(1, 4)))


class Bars(unittest.TestCase):
    def test_examples(self):
        self.assertEqual(bar(turns_line(4), (0,), 1, 0, 1), (0, (), (0, 2)))
        self.assertEqual(list(own_bars(turns_line(4), (0,), 1, 0, 1)), [(0, (), (0, 2))])
        self.assertIs(gets_over(turns_line(5), (0,), 0, 1), True)

    def check(self, schedule, order, goal, lost, turned):
        """Whether there is no bar; bar is compared with all lots."""
        found = bar(schedule, order, goal, lost, turned)
        if found is None:
            self.assertEqual(list(own_bars(schedule, order, goal, lost, turned)), [])
            return True
        index, ahead, behind = found
        self.assertNotEqual(order[index], goal)
        self.assertTrue(any(
            len(ahead) <= lost + h and len(behind) <= 2 * (turned - h) for h in range(turned + 1)
        ))
        self.assertEqual(list(ahead + behind), list(dict.fromkeys(ahead + behind)))
        self.assertEqual((sorted(ahead), sorted(behind)), (list(ahead), list(behind)))
        self.assertTrue(own_keeps_back(schedule, order, goal, index, ahead, behind))
        self.assertIs(is_bar(schedule, order, goal, lost, turned, found), True)
        return False

    def test_small_schedules(self):
        chance = random.Random(421)
        without_bar = 0
        for _ in range(60):
            schedule = some_schedule(chance, 6)
            order = some_order(chance, schedule.many)
            for goal in range(schedule.many):
                for lost, turned in COUNTS:
                    without_bar += self.check(schedule, order, goal, lost, turned)
        self.assertGreater(without_bar, 150)

    def test_where_letters_ahead_matter(self):
        # a word is held up until the letters that would tell it have gone
        cases = [
            (((1, 0, 0), (1, 0, 2), (0, 1, 3), (1, 0, 4), (0, 1, 4), (1, 0, 5), (0, 1, 6), (1, 0, 6)), (0, 1, 1), 0, 2, 0),
            (((2, 1, 0), (1, 3, 0), (1, 0, 1), (1, 2, 1), (2, 1, 1), (0, 1, 2), (0, 3, 2)), (0, 1), 3, 0, 0),
            (((1, 0, 0), (2, 0, 1), (0, 2, 1), (1, 2, 2), (1, 2, 4), (1, 0, 4), (2, 0, 5), (2, 1, 5)), (2, 1), 2, 0, 0),
        ]
        for letters, order, goal, lost, turned in cases:
            schedule = Schedule(1 + max(max(letter[:2]) for letter in letters), letters)
            self.assertFalse(self.check(schedule, order, goal, lost, turned))

    def test_many_schedules(self):
        chance = random.Random(425)
        seen = {True: 0, False: 0}
        while min(seen.values()) < 1200:
            schedule = random_schedule(chance, chance.choice([2, 2, 3, 4]), chance.randint(3, 9), chance.randint(3, 9))
            order = tuple(chance.randrange(schedule.many) for _ in range(chance.randint(1, 3)))
            goal = chance.randrange(schedule.many)
            if set(order) == {goal}:
                continue
            lost, turned = chance.choice([(0, 0), (1, 0), (2, 0), (0, 1), (1, 1)])
            found = bar(schedule, order, goal, lost, turned)
            if found is None:
                self.assertFalse(self.has_bar(schedule, order, goal, lost, turned))
            else:
                self.assertIs(is_bar(schedule, order, goal, lost, turned, found), True)
            seen[found is None] += 1

    def has_bar(self, schedule, order, goal, lost, turned):
        """Whether there is one; as own_bars, with the walks of the package, which have tests of their own."""
        numbers = range(len(schedule.letters))
        for index in [index for index, owner in enumerate(order) if owner != goal]:
            for ahead in lots(len(numbers), lost + turned):
                beat = earliest(schedule, order, index, ahead)
                most = max(2 * (turned - h) for h in range(turned + 1) if len(ahead) <= lost + h)
                for behind in lots(len(numbers), min(most, len(numbers))):
                    both = tuple(sorted({*ahead, *behind}))
                    if beat is None or spread(schedule, order[index], beat, both)[goal] is None:
                        return True
        return False

    def test_lines_and_nets_around_the_least(self):
        without_bar = 0
        for schedule in [*map(turns_line, range(8)), *map(both_line, range(5)), net_schedule(3, ((0, 1), (1, 2)), 2)]:
            for order in [(0,), (1, 0), (0, 1, 0), (0, 0, 1)]:
                for goal in range(schedule.many):
                    for lost, turned in [(0, 0), (1, 0), (2, 0), (0, 1)]:
                        without_bar += self.check(schedule, order, goal, lost, turned)
        self.assertGreater(without_bar, 60)

    def test_houses_that_own_all_words_have_no_bar(self):
        for schedule in [Schedule(2, ()), turns_line(5), both_line(3)]:
            for order in [(0,), (0, 0, 0)]:
                self.assertIsNone(bar(schedule, order, 0, 2, 2))
                self.assertIsNotNone(bar(schedule, order, 1, 2, 2))

    def test_no_letters_are_needed_where_a_word_never_comes(self):
        found = bar(turns_line(3), (1, 0, 1), 0, 0, 0)
        self.assertEqual(found[1:], ((), ()))
        found = bar(Schedule(3, ((0, 1, 0),)), (0,), 2, 0, 0)
        self.assertEqual(found, (0, (), ()))

    def test_gets_over_is_no_bar_for_any_house(self):
        chance = random.Random(422)
        seen = []
        for _ in range(150):
            schedule = some_schedule(chance, 12)
            order = some_order(chance, schedule.many)
            for lost, turned in [(0, 0), (1, 0), (0, 1)]:
                found = [bar(schedule, order, goal, lost, turned) for goal in range(schedule.many)]
                over = gets_over(schedule, order, lost, turned)
                self.assertIs(over, found == [None] * schedule.many)
                seen.append(over)
        self.assertGreater(seen.count(True), 5)

    def test_sixty_letters(self):
        every = tuple(itertools.combinations(range(6), 2))
        schedules = [
            turns_line(60), both_line(30), net_schedule(6, every, 2), net_schedule(3, ((0, 1), (1, 2)), 15),
            net_schedule(5, ((0, 1), (0, 4), (1, 2), (2, 3), (3, 4)), 6),
        ]
        for schedule in schedules:
            many = schedule.many
            for order in [(0,), tuple(range(many)), tuple(at % many for at in range(40))]:
                for lost, turned in [(0, 0), (1, 0), (0, 1), (1, 1), (3, 0), (0, 3), (2, 1)]:
                    for goal in range(many):
                        found = bar(schedule, order, goal, lost, turned)
                        if found is not None:
                            self.assertIs(is_bar(schedule, order, goal, lost, turned, found), True)
                    if lost + turned == 1 and len(order) == 1:
                        self.assertIs(gets_over(schedule, order, lost, turned), True)

    def test_more_faults_are_never_better(self):
        chance = random.Random(423)
        for _ in range(60):
            schedule = some_schedule(chance, 14)
            order = some_order(chance, schedule.many)
            barred = {(lost, turned): bar(schedule, order, 0, lost, turned) for lost, turned in COUNTS}
            for lost, turned in COUNTS:
                if barred[lost, turned] is not None:
                    for more in [(lost + 1, turned), (lost, turned + 1)]:
                        self.assertIsNotNone(barred.get(more, True))
                # to turn a letter is at least as bad as to lose it
                if lost < 2 and turned > 0 and barred[lost + 1, turned - 1] is not None:
                    self.assertIsNotNone(barred[lost, turned])


class IsBar(unittest.TestCase):
    def test_every_pair_of_lots(self):
        chance = random.Random(424)
        right = 0
        for _ in range(12):
            schedule = some_schedule(chance, 5)
            order = some_order(chance, schedule.many)
            goal = chance.randrange(schedule.many)
            every = list(lots(len(schedule.letters), len(schedule.letters)))
            for lost, turned in [(0, 0), (1, 0), (0, 1), (1, 1), (0, 2)]:
                bars = set(own_bars(schedule, order, goal, lost, turned))
                right += len(bars)
                for thing in itertools.product(range(len(order) + 1), every, every):
                    self.assertIs(is_bar(schedule, order, goal, lost, turned, thing), thing in bars, thing)
        self.assertGreater(right, 300)

    def test_what_is_nearly_right(self):
        line, order = turns_line(4), (0, 1, 0)
        self.assertIs(is_bar(line, (0,), 1, 0, 1, (0, (), (0, 2))), True)
        wrong = [
            (0, (0,), (2,)), (0, (0, 2), ()), (0, (), (0,)), (0, (), (2,)), (0, (), (0, 1, 2)), (0, (), (0, 1)),
            (0, (), (2, 0)), (0, (), (0, 0, 2)), (0, (), (0, 2, 2)), (0, (0,), (0, 2)), (1, (), (0, 2)), (-1, (), (0, 2)),
            (False, (), (0, 2)), (0, (), (False, 2)), (0, [], (0, 2)), (0, (), [0, 2]), [0, (), (0, 2)], (0, ()),
            (0, (), (0, 2), ()), (0, (), (0, 2), None), ((), (0, 2)), (0, (), (0, 4)), (0, (), (-1, 0, 2)), ("0", (), (0, 2)),
            (0, None, (0, 2)), (0, (), None), (None, (), (0, 2)), (0, (), (0, 2, 3)), (0, (4,), (0, 2)),
            ((0, (), (0, 2)),), {}, "", b"", 0, True, None,
        ]
        for thing in wrong:
            self.assertIs(is_bar(line, (0,), 1, 0, 1, thing), False, thing)
        self.assertIs(is_bar(line, (0,), 1, 2, 0, (0, (0, 2), ())), True)
        self.assertIs(is_bar(line, (0,), 1, 2, 0, (0, (), (0, 2))), False)
        self.assertIs(is_bar(line, (0,), 1, 1, 1, (0, (0, 2), ())), True)
        self.assertIs(is_bar(line, (0,), 1, 1, 0, (0, (0, 2), ())), False)
        # the owner of word 1 is the goal
        self.assertIs(is_bar(line, order, 1, 1, 0, (2, (0,), ())), True)
        self.assertIs(is_bar(line, order, 1, 1, 0, (1, (0,), ())), False)
        self.assertIs(is_bar(line, order, 0, 1, 0, (1, (0,), ())), False)
        self.assertIs(is_bar(line, order, 0, 2, 0, (1, (0, 2), ())), True)
        self.assertIs(is_bar(line, (1, 1), 0, 2, 0, (True, (1, 3), ())), False)
        self.assertIs(is_bar(line, (1, 1), 0, 2, 0, (1, (1, 3), ())), True)

    def test_letters_behind_do_not_count_for_the_words_ahead(self):
        # barring letter 0 holds up word 1 until letter 2 came; then no letter is left that tells it
        line = turns_line(3)
        self.assertIs(is_bar(line, (0, 1), 0, 1, 0, (1, (0,), ())), True)
        self.assertIs(is_bar(line, (0, 1), 0, 0, 1, (1, (), (0,))), False)
        self.assertIs(is_bar(line, (0, 1), 0, 0, 1, (1, (), (1,))), True)
        # by letter 0 the word comes at beat 1, so letter 1 stays, though letter 0 is barred behind
        self.assertIs(is_bar(line, (0, 1), 0, 0, 1, (1, (), (0, 2))), False)

    def test_odd_things(self):
        for thing in odd_things():
            before = repr(thing)
            for held in [thing, (0, thing, ()), (0, (), thing), (thing, (), (0, 2)), (0, (thing,), ()), (0, (), (0, thing))]:
                self.assertIs(is_bar(turns_line(4), (0,), 1, 0, 1, held), False)
            self.assertEqual(repr(thing), before)


class Errors(unittest.TestCase):
    LINE = turns_line(4)

    def test_in_their_order(self):
        calls = [bar, lambda *told: is_bar(*told, None)]
        for call in calls:
            for order in NO_ORDERS:
                for goal, lost, turned in [(0, 0, 0), (2, 0, 0), (None, None, None), (0, 9, 9)]:
                    with self.assertRaises(NoOrder):
                        call(self.LINE, order, goal, lost, turned)
            for goal in NO_HOUSES:
                for lost, turned in [(0, 0), (None, None), (9, 0)]:
                    with self.assertRaises(NoHouse):
                        call(self.LINE, (0, 1), goal, lost, turned)
            for count in [*NO_COUNTS, *odd_things()]:
                for lost, turned in [(count, 0), (0, count), (count, count)]:
                    with self.assertRaises(NoNumber):
                        call(self.LINE, (0, 1), 0, lost, turned)

    def test_gets_over(self):
        for order in NO_ORDERS:
            for lost, turned in [(0, 0), (None, 0), (9, 9)]:
                with self.assertRaises(NoOrder):
                    gets_over(self.LINE, order, lost, turned)
        for count in [*NO_COUNTS, *odd_things()]:
            for lost, turned in [(count, 0), (0, count), (count, count)]:
                with self.assertRaises(NoNumber):
                    gets_over(self.LINE, (0, 1), lost, turned)

    def test_too_many(self):
        for letters in [17, 18, 19, 20, 22, 25, 30, 35, 45, 60]:
            line = turns_line(letters)
            for faults in range(17):
                lost, turned = faults // 2, faults - faults // 2
                if sum(comb(letters, size) for size in range(faults + 1)) > 200000:
                    for call in [lambda: bar(line, (0,), 1, lost, turned), lambda: gets_over(line, (0,), lost, turned)]:
                        with self.assertRaises(TooMany) as caught:
                            call()
                        self.assertEqual(caught.exception.most, 200000)
                    self.assertIs(is_bar(line, (0,), 1, lost, turned, None), False)
                else:
                    found = bar(line, (0,), 1, lost, turned)
                    self.assertEqual(found is None, (letters + 1) // 2 >= lost + 2 * turned + 1)

    def test_too_many_comes_last(self):
        line = turns_line(60)
        with self.assertRaises(NoOrder):
            bar(line, (2,), 0, 8, 8)
        with self.assertRaises(NoHouse):
            bar(line, (0,), 2, 8, 8)
        with self.assertRaises(NoNumber):
            bar(line, (0,), 0, 8, 9)
        with self.assertRaises(NoOrder):
            gets_over(line, (2,), 8, 8)
        with self.assertRaises(NoNumber):
            gets_over(line, (0,), 9, 8)
        # also where no word has to go anywhere
        with self.assertRaises(TooMany):
            bar(line, (0,), 0, 8, 8)


class Lines(unittest.TestCase):
    def test_counts(self):
        self.assertEqual((least_turns(3, 1, 2), least_both(3, 1, 2)), (13, 8))
        for words in range(1, 41):
            self.assertEqual(by_turns(words), ((0, 1) * 20)[:words])
            for lost in range(9):
                for turned in range(9):
                    self.assertEqual(least_turns(words, lost, turned), words + 2 * lost + 4 * turned)
                    self.assertEqual(least_both(words, lost, turned), words + lost + 2 * turned)

    def test_no_number(self):
        wrong = [thing for thing in [*NO_COUNTS, *odd_things()]]
        for call in [least_turns, least_both]:
            for words in [0, 41, -1, 10 ** 20 - 1, *[thing for thing in wrong if thing != 9]]:
                for rest in [(0, 0), (None, 0), (9, 9)]:
                    with self.assertRaises(NoNumber):
                        call(words, *rest)
            for count in wrong:
                for rest in [(count, 0), (0, count), (count, count)]:
                    with self.assertRaises(NoNumber):
                        call(1, *rest)
        for words in [0, 41, -1, True, False, None, "1", [1], *odd_things()]:
            with self.assertRaises(NoNumber):
                by_turns(words)

    def test_the_fact_of_lines(self):
        for words in [1, 2, 3, 4, 7, 20, 40]:
            order = by_turns(words)
            for lost in range(4):
                for turned in range(4 - lost):
                    turns = least_turns(words, lost, turned)
                    both = least_both(words, lost, turned)
                    for line, least, most in [(turns_line, turns, 60), (both_line, both, 30)]:
                        for n in [least, least + 1]:
                            if n <= most:
                                self.assertIs(gets_over(line(n), order, lost, turned), True)
                                for goal in (0, 1):
                                    self.assertIsNone(bar(line(n), order, goal, lost, turned))
                        for n in [least - 1, least - 2]:
                            if 0 <= n <= most:
                                self.assertIs(gets_over(line(n), order, lost, turned), False)
                                barred = [bar(line(n), order, goal, lost, turned) for goal in (0, 1)]
                                self.assertNotEqual(barred, [None, None])

    def test_many_faults_over_short_lines(self):
        for words, lost, turned in [(1, 4, 2), (2, 0, 3), (1, 0, 4), (1, 8, 0), (5, 2, 2), (1, 2, 3)]:
            n = least_turns(words, lost, turned)
            self.assertIs(gets_over(turns_line(n), by_turns(words), lost, turned), True)
            self.assertIs(gets_over(turns_line(n - 1), by_turns(words), lost, turned), False)


if __name__ == "__main__":
    unittest.main()
