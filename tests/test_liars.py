"""11.1 and 11.2: tellings, Routes, what is taken, houses that all ways pass, Liars."""

import itertools
import random
import unittest

from tests.odd import odd_things
from tests.own import own_heard, own_run, random_schedule
from turnedtalk.errors import NoHouse, NoHouses, NoLiars, NoNumber, NoOther, NoTellings, NoWord
from turnedtalk.faults import Faults, Hearing
from turnedtalk.houses import Table
from turnedtalk.liars import Liar, Routes, all_met, lied, taken, two_worlds
from turnedtalk.records import carried
from turnedtalk.schedules import Schedule, net_schedule, turns_line

NONE = Faults((), ())
NET = net_schedule(4, ((0, 1), (0, 2), (1, 2), (1, 3), (2, 3)), 4)
NO_HOUSES = [-1, 4, True, False, None, "0", (0,), [0], 10 ** 20 - 1]


def own_lots(houses, most):
    for size in range(min(most, len(houses)) + 1):
        yield from itertools.combinations(houses, size)


def others(many, house, other):
    return [one for one in range(many) if one != house and one != other]


def own_taken(many, sender, goal, liars, tellings):
    """11.1, by going through all lots."""
    found = []
    for word in {word for word, _ in tellings}:
        routes = [route for told, route in tellings if told == word]
        if not any(all(set(lot) & set(route) for route in routes) for lot in own_lots(others(many, sender, goal), liars)):
            found.append(word)
    return tuple(sorted(found))


def is_own_telling(thing, many, sender):
    if type(thing) is not tuple or len(thing) != 2 or type(thing[0]) is not str or type(thing[1]) is not tuple:
        return False
    word, route = thing
    if len(word) > 40 or any(not " " <= sign <= "~" for sign in word):
        return False
    return all(type(one) is int and 0 <= one < many for one in route) and route[:1] == (sender,) and len(set(route)) == len(route)


def own_counted(schedule, sender, house, heard):
    """11.1: the tellings that count for a house, in the order in which they were heard."""
    found = []
    for letter, ear in heard:
        for thing in ear:
            if type(thing) is not tuple or not all(is_own_telling(one, schedule.many, sender) for one in thing):
                continue
            for word, route in thing:
                if route[-1] == schedule.letters[letter][0] and house not in route:
                    if route not in [told for _, told in found]:
                        found.append((word, route))
    return found


class OwnRoutes:
    """11.1: Routes, by an own account."""

    def __init__(self, schedule, sender):
        self.schedule = schedule
        self.sender = sender

    def write(self, house, heard, ask, letter):
        if house == self.sender:
            return ((ask(()), (self.sender,)),)
        return tuple(sorted((word, route + (house,)) for word, route in own_counted(self.schedule, self.sender, house, heard)))

    def tell(self, house, heard, ask):
        if house == self.sender:
            return ()
        return tuple(sorted({word for word, _ in own_counted(self.schedule, self.sender, house, heard)}))


def own_lied(schedule, sender, goal, word, liars):
    """11.2: the run in which the liars write as they like."""
    routes = OwnRoutes(schedule, sender)
    ears = {}
    for beat in sorted({letter[2] for letter in schedule.letters}):
        numbers = [number for number, letter in enumerate(schedule.letters) if letter[2] == beat]
        sent = {}
        for number in numbers:
            house = schedule.letters[number][0]
            heard = own_heard(schedule, ears, house, beat)
            if house in liars:
                sent[number] = (liars[house].write(heard, number),)
            else:
                sent[number] = (routes.write(house, heard, lambda row: word, number),)
        ears.update(sent)
    return tuple(sorted(own_counted(schedule, sender, goal, own_heard(schedule, ears, goal, 1000))))


def own_ways(schedule, house, other):
    """5.1: for each way the houses that it passes, as a set."""
    found = []
    waiting = [(house, -1, ())]
    while waiting:
        at, beat, passed = waiting.pop()
        for sender, hearer, written in schedule.letters:
            if sender == at and written > beat:
                if hearer == other:
                    found.append(set(passed))
                waiting.append((hearer, written, (*passed, hearer)))
    return found


def own_all_met(schedule, house, other, most):
    ways = own_ways(schedule, house, other)
    for lot in own_lots(others(schedule.many, house, other), most):
        if all(way & set(lot) for way in ways):
            return lot
    return None


def drawn_telling(chance, many, sender):
    route = (sender, *chance.sample(others(many, sender, sender), chance.randrange(many)))
    return chance.choice(["w", "v", "x"]), route


def drawn_thing(chance, many, sender, writer):
    """What a liar may write: tellings that fit, and all sorts of other things."""
    tellings = []
    for _ in range(chance.randrange(4)):
        word, route = drawn_telling(chance, many, sender)
        tellings.append((word, tuple(one for one in route if one != writer or one == sender)[:many - 1] + (writer,) * (writer != sender)))
    return chance.choice([
        tuple(tellings), tuple(tellings), tuple(tellings), tuple(tellings), (drawn_telling(chance, many, sender),), None, 7,
        [("w", (sender,))], (("w", [sender]),), (*tellings, None), (*tellings, ("w", ())), (("w\n", (sender,)),),
        (("w", (sender, writer, writer)),), (("w", (True, writer)),), (("w", (sender, many)),), ("w", (sender,)), {}, {1: 2},
    ])


class Tellings(unittest.TestCase):
    def test_what_routes_holds(self):
        manner = Routes(NET, 3)
        self.assertEqual((manner.schedule, manner.sender), (NET, 3))
        for sender in NO_HOUSES:
            with self.assertRaises(NoHouse):
                Routes(NET, sender)
        for thing in odd_things():
            with self.assertRaises(NoHouse):
                Routes(NET, thing)

    def test_what_the_sender_writes(self):
        manner = Routes(NET, 0)
        for heard in [(), ((1, ((("x", (0, 1)),),)),)]:
            self.assertEqual(manner.write(0, heard, Table((((), "own"),), "other").word, 0), (("own", (0,)),))
            self.assertEqual(manner.tell(0, heard, Table((), "own").word), ())

    def test_which_tellings_count(self):
        # letters 1 and 5 come from 1 to 0, letters 0 and 2 from 0 to 1 and 2, letter 5 from 2 to 1, letter 6 from 1 to 3
        self.assertEqual(NET.letters[:8], ((0, 1, 0), (1, 0, 0), (0, 2, 0), (2, 0, 0), (1, 2, 0), (2, 1, 0), (1, 3, 0), (3, 1, 0)))
        manner = Routes(NET, 0)
        for thing, told in [
            ((("w", (0,)),), ("w",)),
            ((("w", (0,)), ("v", (0,))), ("w",)),
            ((("v", (0,)), ("w", (0,))), ("v",)),
            ((("w", (0,)), ("v", (0, 2))), ("w",)),
            ((("w", (0, 2)),), ()),
            ((("w", (0, 1)),), ()),
            ((), ()),
            ([("w", (0,))], ()),
            ((["w", (0,)],), ()),
            ((("w", [0]),), ()),
            ((("w", (0,), 0),), ()),
            ((("w", (0,)), None), ()),
            ((("w", (0,)), ("v", ())), ()),
            ((("w", (0,)), ("v", (0, 2, 2))), ()),
            ((("w", (0,)), ("v", (2,))), ()),
            ((("w", (0,)), ("v", (0, 4))), ()),
            ((("w", (0,)), ("v", (False,))), ()),
            ((("w", (False,)),), ()),
            ((("w", (0,)), (1, (0,))), ()),
            ((("w", (0,)), ("w" * 41, (0,))), ()),
            (("w", (0,)), ()),
            (None, ()),
        ]:
            self.assertEqual(manner.tell(1, ((0, (thing,)),), None), told, thing)
            expected = tuple((word, (0, 1)) for word in told)
            self.assertEqual(manner.write(1, ((0, (thing,)),), None, 6), expected)
        self.assertEqual(manner.tell(1, ((0, ()), (5, ((("v", (0, 2)), ("u", (0, 3, 2)), ("t", (0, 2, 3))),))), None), ("u", "v"))
        # of one route the first letter that was heard counts
        heard = ((0, ((("w", (0,)),),)), (10, ((("v", (0,)),),)), (5, ((("a", (0, 2)),),)))
        self.assertEqual(manner.tell(1, heard, None), ("a", "w"))
        self.assertEqual(manner.write(1, heard, None, 6), (("a", (0, 2, 1)), ("w", (0, 1))))

    def test_runs(self):
        chance = random.Random(111)
        for _ in range(120):
            many = chance.randint(2, 5)
            schedule = random_schedule(chance, many, chance.randint(1, 18), 5)
            sender = chance.randrange(many)
            houses = tuple(Table((((), f"h{at}"),), "other") for at in range(many))
            into = {
                number: chance.choice([(), (drawn_thing(chance, many, sender, schedule.letters[number][0]),)])
                for number in range(len(schedule.letters)) if chance.random() < 0.3
            }
            for number, ear in into.items():
                if ear and isinstance(ear[0], (list, dict)) or any(isinstance(part, list) for part in _parts(ear)):
                    into[number] = (None,)
            turner = Hearing(lambda letter, thing: into.get(letter, (thing,)))
            record = carried(schedule, houses, Routes(schedule, sender), turner)
            sent, ears, told, _ = own_run(schedule, houses, OwnRoutes(schedule, sender), turner)
            self.assertEqual((record.sent, record.ears, record.told), (sent, ears, told))

    def test_true_houses(self):
        houses = tuple(Table((), str(at)) for at in range(4))
        self.assertEqual(carried(NET, houses, Routes(NET, 2), NONE).told, (("2",), ("2",), (), ("2",)))
        self.assertEqual(carried(turns_line(0), houses[:2], Routes(turns_line(0), 0), NONE).told, ((), ()))


def _parts(ear):
    """What stands in an ear, three deep."""
    for thing in ear:
        if isinstance(thing, tuple):
            for part in thing:
                yield part
                if isinstance(part, tuple):
                    yield from part


class Taken(unittest.TestCase):
    def test_by_all_lots(self):
        chance = random.Random(112)
        for _ in range(1500):
            many = chance.randint(2, 8)
            sender, goal = chance.sample(range(many), 2)
            tellings = []
            for _ in range(chance.choice([0, 1, 2, 3, 5, 9, 40, 60])):
                between = others(many, sender, goal)
                route = (sender, *chance.sample(between, chance.randint(0, len(between))))
                tellings.append((chance.choice(["w", "v"] if chance.random() < 0.9 else ["x"]), route))
            liars = chance.randint(0, many)
            expected = own_taken(many, sender, goal, liars, tellings)
            self.assertEqual(taken(many, sender, goal, liars, tuple(tellings)), expected)

    def test_few(self):
        self.assertEqual(taken(4, 0, 3, 1, ()), ())
        self.assertEqual(taken(2, 0, 1, 0, (("w", (0,)), ("w", (0,)), ("v", (0,)))), ("v", "w"))
        self.assertEqual(taken(2, 0, 1, 2, (("w", (0,)),)), ("w",))
        self.assertEqual(taken(4, 0, 3, 1, (("w", (0, 1)), ("w", (0, 2)), ("v", (0, 1, 2)))), ("w",))
        self.assertEqual(taken(4, 0, 3, 2, (("w", (0, 1)), ("w", (0, 2)))), ())
        self.assertEqual(taken(4, 0, 3, 0, (("w", (0, 1)), ("v", (0, 1)))), ("v", "w"))
        many = tuple((f"{at}", (0, 1, 2)[:1 + at % 3]) for at in range(20000))
        self.assertEqual(taken(4, 0, 3, 1, many), tuple(sorted(str(at) for at in range(0, 20000, 3))))

    def test_errors_in_their_order(self):
        for many in [1, 9, 0, -1, True, None, "4", (4,), 10 ** 20 - 1, *odd_things()]:
            with self.assertRaises(NoHouses):
                taken(many, None, None, None, None)
        for house in NO_HOUSES:
            with self.assertRaises(NoHouse):
                taken(4, house, 0, None, None)
            with self.assertRaises(NoHouse):
                taken(4, 0, house, None, None)
        with self.assertRaises(NoHouse):
            taken(2, 1, 2, 0, ())
        with self.assertRaises(NoOther):
            taken(4, 1, 1, None, None)
        for liars in [-1, 5, True, False, None, "0", (0,), 10 ** 20 - 1]:
            with self.assertRaises(NoNumber):
                taken(4, 0, 1, liars, None)
        wrong = [
            (("w", (0, 3)),), (("w", (0, 1, 1)),), (("w", ()),), (("w", (1,)),), (("w", (0, 4)),), (("w", (0, True)),),
            (("w", (False,)),), (("w", [0]),), (["w", (0,)],), [("w", (0,))], (("w", (0,), 0),), (("w",),), ("w", (0,)),
            ((1, (0,)),), (("w\n", (0,)),), ((None, (0,)),), (("w", (0,)), None), None, "w", {}, (("w", (0, -1)),),
            (("w", (0, "1")),), (("w" * 41, (0,)),), (("w", (0, 0)),), (("w", (0, 1, 2, 3)),), (("w", (0, (1,))),),
        ]
        for tellings in wrong + [(("w", (0,)), thing) for thing in odd_things()]:
            with self.assertRaises(NoTellings, msg=repr(tellings)[:80]):
                taken(4, 0, 3, 4, tellings)
        for thing in odd_things():
            with self.assertRaises(NoTellings):
                taken(4, 0, 3, 0, thing)


class AllMet(unittest.TestCase):
    def test_by_all_lots(self):
        chance = random.Random(113)
        found = []
        for _ in range(500):
            many = chance.randint(2, 6)
            schedule = random_schedule(chance, many, chance.randint(0, 14), 4)
            house, other = chance.sample(range(many), 2)
            for most in (0, 1, 2, 3, 100, 10 ** 20 - 1):
                expected = own_all_met(schedule, house, other, most)
                found.append(expected)
                self.assertEqual(all_met(schedule, house, other, most), expected)
                worlds = two_worlds(schedule, house, other, most)
                wider = own_all_met(schedule, house, other, 2 * most)
                if wider is None:
                    self.assertIsNone(worlds)
                    continue
                self.assertIsInstance(worlds, tuple)
                self.assertEqual(len(worlds), 2)
                ways = own_ways(schedule, house, other)
                self.assertTrue(all(way & {*worlds[0], *worlds[1]} for way in ways))
                for lot in worlds:
                    self.assertIsInstance(lot, tuple)
                    self.assertEqual(list(lot), sorted(set(lot)))
                    self.assertLessEqual(len(lot), most)
                    self.assertLessEqual(set(lot), set(others(many, house, other)))
        self.assertIn(None, found)
        self.assertEqual(sorted({len(lot) for lot in found if lot is not None}), [0, 1, 2])

    def test_edges(self):
        net = net_schedule(3, ((0, 1), (1, 2)), 2)
        self.assertEqual(all_met(net, 0, 2, 1), (1,))
        self.assertIsNone(all_met(net, 0, 2, 0))
        self.assertIsNone(all_met(net, 0, 1, 10 ** 20 - 1))
        self.assertEqual(all_met(Schedule(2, ()), 1, 0, 0), ())
        self.assertEqual(all_met(Schedule(3, ((0, 1, 1), (1, 2, 1))), 0, 2, 5), ())
        self.assertEqual(two_worlds(net, 0, 2, 0), None)
        self.assertEqual(sorted(two_worlds(net, 0, 2, 1)), [(), (1,)])
        self.assertEqual(two_worlds(Schedule(2, ()), 1, 0, 0), ((), ()))
        eight = Schedule(8, tuple((0, at, 0) for at in range(1, 7)) + tuple((at, 7, 1) for at in range(1, 7)))
        self.assertIsNone(all_met(eight, 0, 7, 5))
        self.assertEqual(all_met(eight, 0, 7, 6), (1, 2, 3, 4, 5, 6))
        self.assertIsNone(two_worlds(eight, 0, 7, 2))
        self.assertEqual(sorted(len(lot) for lot in two_worlds(eight, 0, 7, 3)), [3, 3])

    def test_errors_in_their_order(self):
        for function in (all_met, two_worlds):
            for house in NO_HOUSES:
                for other in [0, None]:
                    with self.assertRaises(NoHouse):
                        function(NET, house, other, None)
                with self.assertRaises(NoHouse):
                    function(NET, 0, house, None)
            with self.assertRaises(NoOther):
                function(NET, 2, 2, None)
            for most in [-1, True, False, None, "1", (1,), [1], b"1"]:
                with self.assertRaises(NoNumber):
                    function(NET, 0, 3, most)


class Lied(unittest.TestCase):
    def drawn_liar(self, chance, schedule, sender, house):
        things = {
            number: drawn_thing(chance, schedule.many, sender, house)
            for number, letter in enumerate(schedule.letters) if letter[0] == house
        }
        true = OwnRoutes(schedule, sender)

        def writing(heard, letter):
            if letter % 3 == 0:
                return true.write(house, heard, lambda row: "w", letter)
            return things[letter]

        return writing

    def test_by_an_own_account(self):
        chance = random.Random(114)

        class Other:
            def __init__(self, writing):
                self.write = writing

        for _ in range(250):
            many = chance.randint(2, 6)
            schedule = random_schedule(chance, many, chance.randint(1, 20), 5)
            sender, goal = chance.sample(range(many), 2)
            between = others(many, sender, goal)
            liars = {}
            for house in chance.sample(between, min(len(between), chance.randrange(4))):
                liars[house] = chance.choice([Liar, Other])(self.drawn_liar(chance, schedule, sender, house))
            before = dict(liars)
            told = lied(schedule, sender, goal, "w", liars)
            self.assertEqual(told, own_lied(schedule, sender, goal, "w", liars))
            self.assertEqual(liars, before)

    def test_without_liars(self):
        self.assertEqual(lied(NET, 0, 3, "", {}), (("", (0, 1)), ("", (0, 1, 2)), ("", (0, 2)), ("", (0, 2, 1))))
        self.assertEqual(lied(turns_line(0), 0, 1, "w", {}), ())
        self.assertEqual(lied(turns_line(3), 0, 1, "w", {}), (("w", (0,)),))

    def test_what_a_liar_is_asked(self):
        asked = []

        def writing(heard, letter):
            asked.append((heard, letter))
            return None

        schedule = Schedule(3, ((0, 1, 0), (1, 2, 1), (2, 1, 1), (1, 2, 3)))
        self.assertEqual(lied(schedule, 0, 2, "w", {1: Liar(writing)}), ())
        self.assertEqual(asked, [(((0, ((("w", (0,)),),)),), 1), (((0, ((("w", (0,)),),)), (2, ((),))), 3)])
        liar = Liar(lambda heard, letter: [heard, letter])
        self.assertEqual(liar.write((), 5), [(), 5])

    def test_errors_in_their_order(self):
        for house in NO_HOUSES:
            with self.assertRaises(NoHouse):
                lied(NET, house, 0, None, None)
            with self.assertRaises(NoHouse):
                lied(NET, 0, house, None, None)
        with self.assertRaises(NoOther):
            lied(NET, 1, 1, None, None)
        for word in odd_things():
            with self.assertRaises(NoWord):
                lied(NET, 0, 3, word, None)
        liar = Liar(lambda heard, letter: None)
        wrong = [
            {0: liar}, {3: liar}, {4: liar}, {-1: liar}, {1: liar, 3: liar}, {"1": liar}, {None: liar}, {(1,): liar},
            {1: liar, b"2": liar}, [1], (1,), ((1, liar),), None, 1, "", {1: liar, 10 ** 20 - 1: liar},
        ]
        for liars in wrong + [thing for thing in odd_things() if thing != {}]:
            with self.assertRaises(NoLiars, msg=repr(liars)[:80]):
                lied(NET, 0, 3, "w", liars)


class Fact(unittest.TestCase):
    def liars_of(self, chance, schedule, sender, lot):
        """For each of the lot a liar: one that is true, one that turns words, one that writes anything."""
        true = OwnRoutes(schedule, sender)
        found = {}
        for house in lot:
            def writing(heard, letter, house=house, how=chance.randrange(3)):
                told = true.write(house, heard, None, letter)
                if how == 0:
                    return told
                if how == 1:
                    return tuple(sorted(("false", route) for _, route in told))
                ends = [one for one in range(schedule.many) if one not in (sender, house)]
                routes = [(sender, *between, house) for size in range(3) for between in itertools.permutations(ends, size)]
                return tuple(("false", route) for route in routes)
            found[house] = Liar(writing)
        return found

    def test_liars(self):
        chance = random.Random(115)
        seen = {True: 0, False: 0}
        for _ in range(260):
            many = chance.randint(3, 6)
            schedule = random_schedule(chance, many, chance.randint(4, 24), 3)
            sender, goal = chance.sample(range(many), 2)
            most = chance.randrange(3)
            open_ways = all_met(schedule, sender, goal, 2 * most) is None
            seen[open_ways] += 1
            self.assertEqual(two_worlds(schedule, sender, goal, most) is None, open_ways)
            for lot in own_lots(others(many, sender, goal), most):
                told = lied(schedule, sender, goal, "true", self.liars_of(chance, schedule, sender, lot))
                words = taken(many, sender, goal, min(most, many), told)
                self.assertLessEqual(set(words), {"true"})
                if open_ways:
                    self.assertEqual(words, ("true",))
        self.assertGreater(min(seen.values()), 40)

    def test_two_worlds_are_alike(self):
        # in the one world one lot lies, in the other one the other lot, and the goal hears the same
        net = Schedule(4, ((0, 1, 0), (0, 2, 0), (1, 3, 1), (2, 3, 1)))
        one, other = two_worlds(net, 0, 3, 1)
        self.assertEqual(sorted([one, other]), [(1,), (2,)])

        def saying(house, word):
            return {house: Liar(lambda heard, letter: ((word, (0, house)),))}

        self.assertEqual(
            lied(net, 0, 3, "a", saying(one[0], "b")), lied(net, 0, 3, "b", saying(other[0], "a"))
        )


if __name__ == "__main__":
    unittest.main()
