"""3.2: things and ears, also such as are wide, deep, or hold one thing many times."""

import random
import unittest

from tests.odd import nested_tuple, odd_things
from tests.own import same
from tests.own_states import is_own_thing
from turnedtalk.things import Numbering, alike, is_ear, is_thing


def doubled(thing, times):
    """A thing that holds this one as often as two to the power of times."""
    for _ in range(times):
        thing = (thing, ("x", thing))
    return thing


def some_thing(chance, most):
    if most == 0 or chance.random() < 0.3:
        return chance.choice([None, True, False, 0, 1, 2, "", "a", "1", ()])
    return tuple(some_thing(chance, most - 1) for _ in range(chance.randint(0, 3)))


class Things(unittest.TestCase):
    def test_odd_things(self):
        for thing in odd_things():
            self.assertIs(is_thing(thing), is_own_thing(thing))
            self.assertIs(is_ear((thing,)), is_own_thing(thing))
            self.assertIs(is_ear((thing, thing)), False)
            self.assertIs(is_ear([thing]), False)
        self.assertIs(is_ear(()), True)

    def test_wide_ones(self):
        for wrong in [b"x", [], {}, object()]:
            for place in (0, 1, 2999, 5998, 5999):
                for part in [wrong, (wrong,), ((), wrong)]:
                    parts = [("x", ())] * 6000
                    self.assertIs(is_thing(tuple(parts)), True)
                    parts[place] = (part, ())
                    self.assertIs(is_thing(tuple(parts)), False)
                    self.assertIs(is_thing((tuple(parts), "x")), False)

    def test_deep_ones(self):
        self.assertIs(is_thing(nested_tuple(600)), True)
        self.assertIs(is_thing(nested_tuple(600, [])), False)
        for deep in (300, 600):
            self.assertIs(alike(nested_tuple(deep, 1), nested_tuple(deep, 1)), True)
            self.assertIs(alike(nested_tuple(deep, 1), nested_tuple(deep, True)), False)
            self.assertIs(alike(nested_tuple(deep, 1), nested_tuple(deep + 1, 1)), False)

    def test_one_thing_many_times(self):
        for times in (5, 12, 60):
            self.assertIs(is_thing(doubled("a", times)), True)
            self.assertIs(is_thing(doubled(b"a", times)), False)
            self.assertIs(is_thing((doubled("a", times), [])), False)
            self.assertIs(is_thing(([], doubled("a", times))), False)
            self.assertIs(is_thing(((), (doubled("a", times), (b"", ())))), False)
        one = doubled("a", 15)
        self.assertIs(alike(one, (one[0], ("x", one[0]))), True)
        self.assertIs(alike(one, (one[0], ("y", one[0]))), False)
        self.assertIs(alike(one, one[0]), False)


class Alike(unittest.TestCase):
    def test_equal_also_in_kind(self):
        chance = random.Random(32)
        seen = {True: 0, False: 0}
        for _ in range(3000):
            one, other = some_thing(chance, 3), some_thing(chance, 3)
            self.assertIs(alike(one, other), same(one, other))
            self.assertIs(alike((one, other), (one, other)), True)
            self.assertIs(alike((one, 1), (other, True)), False)
            seen[same(one, other)] += 1
        self.assertGreater(min(seen.values()), 100)

    def test_equal_also_in_kind_however_many_parts(self):
        for many in (1, 4000, 6000, 30000):
            for part in [((0,),), ((), ((0, "x"), None))]:
                for leaf, other in [(1, True), (False, 0), (0, False)]:
                    wide = (part,) * many
                    self.assertIs(alike((*wide, ((leaf,),)), (*wide, ((leaf,),))), True)
                    self.assertIs(alike((*wide, ((leaf,),)), (*wide, ((other,),))), False)
                    self.assertIs(alike((((leaf,),), *wide), (((other,),), *wide)), False)

    def test_equal_also_in_kind_within_what_stands_there_often(self):
        for times in (3, 9, 13, 15):
            one, other, again = doubled((1, ()), times), doubled((True, ()), times), doubled((1, ()), times)
            self.assertIs(alike((one, one), (one, again)), True)
            self.assertIs(alike((one, one), (one, other)), False)
            self.assertIs(alike((one, other), (one, other)), True)
            self.assertIs(alike((one, (other, one)), (one, (again, one))), False)
            numbering = Numbering()
            numbers = [numbering.number(thing) for thing in [one, other, again, (other, one), (one, other)]]
            self.assertEqual(numbers[0], numbers[2])
            self.assertEqual(len(set(numbers)), 4)

    def test_numbers(self):
        chance = random.Random(33)
        numbering = Numbering()
        known = {}
        for _ in range(3000):
            thing = some_thing(chance, 4)
            number = numbering.number(thing)
            self.assertEqual(known.setdefault(repr(thing), number), number)
            self.assertTrue(same(numbering.things[number], thing))
            if isinstance(thing, tuple):
                parts = tuple(numbering.things[part] for part in numbering.parts[number])
                self.assertTrue(same(parts, thing))
        self.assertEqual(len(set(known.values())), len(known))
        self.assertIsNone(numbering.number((1, [])))


if __name__ == "__main__":
    unittest.main()
