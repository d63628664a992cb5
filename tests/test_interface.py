"""The interface: each name stands in its file, with its arguments, and each class has its methods and attributes."""

import importlib
import inspect
import pathlib
import unittest

from turnedtalk.disks import Disk
from turnedtalk.faults import Faults
from turnedtalk.houses import Table
from turnedtalk.kinds import AllAhead
from turnedtalk.liars import Routes
from turnedtalk.programs import Program
from turnedtalk.records import Record
from turnedtalk.schedules import Schedule, turns_line
from turnedtalk.votes import Votes
from turnedtalk.wholes import Whole
from turnedtalk.wordless import Wordless

FUNCTIONS = {
    "houses": ["asked(house, row)", "talk(houses, order)", "is_talk(houses, order, thing)"],
    "programs": ["program_text(program)", "read_program(text)"],
    "schedules": ["turns_line(n)", "both_line(n)", "net_schedule(many, ties, beats)", "without(schedule, letters)"],
    "records": [
        "carried(schedule, houses, manner, turner)", "heard(schedule, record, house, beat)", "lost(record)", "turned(record)",
    ],
    "walks": ["spread(schedule, house, beat, barred)", "earliest(schedule, order, index, barred)"],
    "bars": [
        "is_bar(schedule, order, goal, lost, turned, thing)", "gets_over(schedule, order, lost, turned)",
        "bar(schedule, order, goal, lost, turned)", "least_turns(words, lost, turned)", "least_both(words, lost, turned)",
        "by_turns(words)",
    ],
    "ways": [
        "apart(schedule, house, other)", "meeting(schedule, house, other)", "are_apart(schedule, house, other, thing)",
        "is_meeting(schedule, house, other, thing)",
    ],
    "votes": ["tree(order, house, heard, ask)"],
    "wholes": [
        "is_state(schedule, order, letter, thing)", "fits(schedule, order, lost, state, lot)",
        "state_of(schedule, order, house, heard, ask)", "told_by(schedule, order, lost, state, lot)",
        "sure(schedule, order, lost, turned, state)", "fewest_turned(schedule, order, lost, state)",
    ],
    "breaks": [
        "is_break(schedule, order, goal, lost, turned, manner, thing)", "breaking(schedule, order, goal, lost, turned, manner)",
    ],
    "kinds": ["least_known(order, lost, turned)"],
    "ears": ["least_window(lost, turned)", "blur(lost, turned)"],
    "liars": [
        "taken(many, sender, goal, liars, tellings)", "all_met(schedule, house, other, most)",
        "lied(schedule, sender, goal, word, liars)", "two_worlds(schedule, sender, goal, liars)",
    ],
    "disks": ["record_line(thing)", "read_line(line)"],
    "texts": [
        "thing_text(thing)", "schedule_text(schedule)", "order_text(order)", "faults_text(faults)", "read_thing(text)",
        "read_schedule(text)", "read_order(text)", "read_faults(text)",
    ],
    "pictures": ["picture(schedule, record)", "bar_picture(schedule, thing)"],
}
MANNER = ["write(self, house, heard, ask, letter)", "tell(self, house, heard, ask)"]
CLASSES = {
    "houses": {"Table(pairs, other)": ["word(self, row)"], "Voice(telling)": ["word(self, row)"]},
    "programs": {"Program(statements)": ["word(self, row)"]},
    "schedules": {"Schedule(many, letters)": []},
    "faults": {"Faults(lost, turned)": ["ear(self, letter, thing)"], "Hearing(hearing)": ["ear(self, letter, thing)"]},
    "records": {"Record(sent, ears, told, asks)": [], "Hand(writing, telling)": MANNER},
    "votes": {"Votes(order)": MANNER},
    "wholes": {"Whole(schedule, order, lost, turned)": MANNER},
    "kinds": {"AllAhead(order, kind)": MANNER},
    "ears": {
        "Ear(number, house, window, lost, turned)":
            ["letter(self)", "hear(self, ear)", "sure(self)", "kept(self)", "beat(self)", "copy(self)"],
    },
    "liars": {"Liar(writing)": ["write(self, heard, letter)"], "Routes(schedule, sender)": MANNER},
    "disks": {
        "Disk()": [
            "write(self, line)", "sync(self)", "cut(self, kept)", "drop(self, number)", "lines(self)", "synced(self)", "copy(self)",
        ],
    },
    "savings": {
        "SavedEar(number, house, window, lost, turned, disk)":
            ["letter(self)", "hear(self, ear)", "sure(self)", "kept(self)", "beat(self)", "down(self, letters)", "disk(self)"],
    },
    "desks": {"Desk()": ["tell(self, line)"]},
}


class Interface(unittest.TestCase):
    def file(self, name):
        return importlib.import_module(f"turnedtalk.{name}")

    def test_functions(self):
        for name, told in FUNCTIONS.items():
            for one in told:
                function = getattr(self.file(name), one.partition("(")[0])
                self.assertEqual(function.__module__, f"turnedtalk.{name}")
                self.assertEqual(function.__name__ + str(inspect.signature(function)), one)

    def test_classes(self):
        for name, told in CLASSES.items():
            for one, methods in told.items():
                kind = getattr(self.file(name), one.partition("(")[0])
                self.assertEqual(kind.__module__, f"turnedtalk.{name}")
                self.assertEqual(kind.__name__ + str(inspect.signature(kind)), one)
                for method in methods:
                    function = vars(kind)[method.partition("(")[0]]
                    self.assertEqual(function.__name__ + str(inspect.signature(function)), method)

    def test_each_class_is_one_of_houses_or_errors_or_tells_no_words(self):
        folder = pathlib.Path(__file__).resolve().parent.parent / "turnedtalk"
        seen = 0
        for path in sorted(folder.glob("*.py")):
            for kind in vars(self.file(path.stem)).values():
                if isinstance(kind, type) and not issubclass(kind, ValueError) and kind is not ValueError:
                    self.assertNotEqual(hasattr(kind, "word"), issubclass(kind, Wordless), kind)
                    seen += 1
        self.assertGreater(seen, 20)

    def test_attributes_and_equality(self):
        line = turns_line(2)
        for one, same, others, attributes in [
            (Table((((), "a"),), "b"), Table((((), "a"),), "b"), [Table((), "b"), Table((((), "a"),), "c")], ["pairs", "other"]),
            (Program(()), Program(()), [Program((("say", ("many",)),))], ["statements"]),
            (line, Schedule(2, line.letters), [turns_line(1), Schedule(3, line.letters)], ["many", "letters"]),
            (Faults((0,), ((1, 2),)), Faults((0,), ((1, 2),)), [Faults((), ((1, 2),)), Faults((0,), ())], ["lost", "turned"]),
            (
                Record((1,), ((),), (None,), ((),)), Record((True,), ((),), (None,), ((),)),
                [Record((2,), ((),), (None,), ((),)), Record((1,), ((1,),), (None,), ((),)), Record((1,), ((),), (1,), ((),)),
                 Record((1,), ((),), (None,), (((),),))],
                ["sent", "ears", "told", "asks"],
            ),
        ]:
            self.assertTrue(one == same and same == one and not one != same)
            for attribute in attributes:
                self.assertEqual(getattr(one, attribute), getattr(same, attribute))
            for other in [*others, None, 0, (), attributes, one.__class__, tuple(getattr(one, at) for at in attributes)]:
                self.assertFalse(one == other or other == one)
        self.assertEqual(Votes((0, 1)).order, (0, 1))
        self.assertEqual((AllAhead((0,), ("a", "b")).order, AllAhead((0,), ("a", "b")).kind), ((0,), ("a", "b")))
        whole = Whole(line, (1,), 0, 1)
        self.assertEqual((whole.schedule, whole.order, whole.lost, whole.turned), (line, (1,), 0, 1))
        self.assertEqual((Routes(line, 1).schedule, Routes(line, 1).sender), (line, 1))
        self.assertIsInstance(Disk().copy(), Disk)


if __name__ == "__main__":
    unittest.main()
