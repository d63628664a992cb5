"""0.3 and turnedtalk/errors.py."""

import unittest

from tests.odd import odd_things
from turnedtalk import errors
from turnedtalk.errors import TalkError

FIELDS = {
    "BadHouse": "row",
    "BadTable": "part",
    "BadText": "line",
    "BadSchedule": "part",
    "BadFaults": "part",
    "BadLetter": "letter",
    "BadEar": "letter",
    "BadThing": "place",
    "NoName": "name",
    "TooMany": "most",
}
PLAIN = (
    "NoRow NoOrder BadProgram NoProgram NoNumber NoNet NoLetters NoHouses NoHouse NoIndex NoOther NoLetter NoState"
    " NoBar NoKind NoEar NotNow NoFaults NoTellings NoWord NoLiars NoLine NoCut NoThing NoDisk NoBarShown"
).split()
NAMES = [*FIELDS, *PLAIN]


def made(name):
    made_of = getattr(errors, name)
    return made_of("x") if name in FIELDS else made_of()


class ErrorClasses(unittest.TestCase):
    def test_there_are_36_and_no_others(self):
        self.assertEqual(len(NAMES), 36)
        found = [name for name, thing in vars(errors).items() if isinstance(thing, type)]
        self.assertEqual(sorted(found), sorted(["TalkError", *NAMES]))

    def test_each_is_a_class_of_its_own_directly_below_talk_error(self):
        self.assertEqual(TalkError.__bases__, (ValueError,))
        for name in NAMES:
            one = getattr(errors, name)
            self.assertEqual(one.__bases__, (TalkError,), name)
            self.assertEqual(one.__name__, name)
            self.assertEqual(one.__module__, "turnedtalk.errors")

    def test_each_keeps_whatever_it_was_made_with(self):
        for name, field in FIELDS.items():
            for thing in [0, 7, "", "x", ("a", "b"), 1.5, {1, 2}, *odd_things()]:
                error = getattr(errors, name)(thing)
                self.assertIs(getattr(error, field), thing)
                self.assertEqual(list(vars(error)), [field])

    def test_the_others_keep_nothing(self):
        for name in PLAIN:
            self.assertEqual(vars(made(name)), {})

    def test_those_with_a_field_are_not_made_without_one(self):
        for name in FIELDS:
            with self.assertRaises(TypeError):
                getattr(errors, name)()
            with self.assertRaises(TypeError):
                getattr(errors, name)(1, 2)

    def test_each_is_caught_by_its_own_class_and_talk_error_alone(self):
        for name in NAMES:
            for other in NAMES:
                caught = self.caught_by(made(name), getattr(errors, other))
                self.assertEqual(caught, name == other, (name, other))
            self.assertTrue(self.caught_by(made(name), TalkError))
            self.assertTrue(self.caught_by(made(name), ValueError))
            self.assertFalse(self.caught_by(made(name), LookupError))

    def caught_by(self, error, kind):
        try:
            raise error
        except kind as caught:
            return caught is error
        except ValueError:
            return False


if __name__ == "__main__":
    unittest.main()
