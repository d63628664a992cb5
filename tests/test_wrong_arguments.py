"""0.3 and 0.4: odd arguments wherever a point names an error, and none of them changed."""

import unittest

from tests.odd import odd_things, things_of_python
from turnedtalk.bars import bar, by_turns, gets_over, is_bar, least_both, least_turns
from turnedtalk.breaks import breaking, is_break
from turnedtalk.desks import Desk
from turnedtalk.disks import Disk, record_line
from turnedtalk.ears import Ear, blur, least_window
from turnedtalk.errors import (
    BadEar, BadFaults, BadHouse, BadLetter, BadProgram, BadSchedule, BadTable, BadText, NoBarShown, NoCut, NoDisk, NoEar,
    NoHouse, NoHouses, NoIndex, NoKind, NoLetter, NoLetters, NoLiars, NoLine, NoNet, NoNumber, NoOrder, NoOther, NoProgram,
    NoRow, NoState, NoTellings, NoThing, NoWord,
)
from turnedtalk.faults import Faults, Hearing
from turnedtalk.houses import Table, Voice, asked, is_talk, talk
from turnedtalk.kinds import AllAhead, least_known
from turnedtalk.liars import Routes, all_met, lied, taken, two_worlds
from turnedtalk.pictures import bar_picture
from turnedtalk.programs import Program, program_text, read_program
from turnedtalk.records import Hand, carried, heard
from turnedtalk.savings import SavedEar
from turnedtalk.schedules import Schedule, both_line, net_schedule, turns_line, without
from turnedtalk.texts import order_text, thing_text
from turnedtalk.votes import Votes, tree
from turnedtalk.walks import earliest, spread
from turnedtalk.ways import apart, are_apart, is_meeting, meeting
from turnedtalk.wholes import Whole, fewest_turned, fits, is_state, state_of, sure, told_by

HOUSES = (Table((((), "a"),), "b"), Program((("say", ("last",)),)))
MUTE = Voice(lambda row: None)
NONE = Faults((), ())
SILENT = Hand(lambda *told: None, lambda *told: None)
RECORD = carried(turns_line(4), HOUSES, SILENT, NONE)
LINE = turns_line(4)
STATE = (0, (), (((), "a"),))


def writing(thing):
    """A manner that writes lists with this within, which are no things."""
    return Hand(lambda *told: (0, [thing]), lambda *told: None)

# each call with an odd thing, and the error with its fields
CALLS = [
    (lambda thing: Table(thing, "a"), BadTable, None),
    (lambda thing: Table((thing,), "a"), BadTable, {"part": 0}),
    (lambda thing: Table(((thing, "a"),), "a"), BadTable, {"part": 0}),
    (lambda thing: Table((((), thing),), "a"), BadTable, {"part": 0}),
    (lambda thing: Table((), thing), BadTable, {"part": "other"}),
    (lambda thing: Table((), "a").word(thing), NoRow, {}),
    (lambda thing: Table((), "a").word((thing,)), NoRow, {}),
    (lambda thing: Voice(len).word(thing), NoRow, {}),
    (lambda thing: Program(()).word(thing), NoRow, {}),
    (lambda thing: asked(HOUSES[0], thing), NoRow, {}),
    (lambda thing: asked(MUTE, thing), NoRow, {}),
    (lambda thing: asked(Voice(lambda row: thing), ("a",)), BadHouse, {"row": ("a",)}),
    (lambda thing: talk(HOUSES, thing), NoOrder, {}),
    (lambda thing: talk(HOUSES, (0, thing)), NoOrder, {}),
    (lambda thing: talk((MUTE, MUTE), thing), NoOrder, {}),
    (lambda thing: talk((HOUSES[0], Voice(lambda row: thing)), (0, 1)), BadHouse, {"row": ("a",)}),
    (lambda thing: is_talk(HOUSES, thing, ("a",)), NoOrder, {}),
    (lambda thing: is_talk(HOUSES, thing, thing), NoOrder, {}),
    (lambda thing: is_talk((MUTE, MUTE), (0,), thing), BadHouse, {"row": ()}),
    (lambda thing: Program(thing), BadProgram, {}),
    (lambda thing: Program((thing,)), BadProgram, {}),
    (lambda thing: Program((("say", thing),)), BadProgram, {}),
    (lambda thing: Program((("say", ("text", thing)),)), BadProgram, {}),
    (lambda thing: Program((("say", (thing, "a")),)), BadProgram, {}),
    (lambda thing: Program(((thing, "a"),)), BadProgram, {}),
    (lambda thing: Program((("each", thing, ()),)), BadProgram, {}),
    (lambda thing: Program((("each", "a", thing),)), BadProgram, {}),
    (lambda thing: Schedule(thing, ()), BadSchedule, {"part": "many"}),
    (lambda thing: Schedule(thing, thing), BadSchedule, {"part": "many"}),
    (lambda thing: Schedule(2, thing), BadSchedule, None),
    (lambda thing: Schedule(2, (thing,)), BadSchedule, {"part": 0}),
    (lambda thing: Schedule(2, ((0, 1, thing),)), BadSchedule, {"part": 0}),
    (lambda thing: Schedule(2, ((0, thing, 1),)), BadSchedule, {"part": 0}),
    (lambda thing: Schedule(2, ((thing, 0, 1),)), BadSchedule, {"part": 0}),
    (lambda thing: turns_line(thing), NoNumber, {}),
    (lambda thing: both_line(thing), NoNumber, {}),
    (lambda thing: net_schedule(thing, (), 1), NoNet, {}),
    (lambda thing: net_schedule(2, thing, 1), NoNet, {}),
    (lambda thing: net_schedule(2, (thing,), 1), NoNet, {}),
    (lambda thing: net_schedule(2, ((0, thing),), 1), NoNet, {}),
    (lambda thing: net_schedule(thing, thing, thing), NoNet, {}),
    (lambda thing: net_schedule(2, ((0, 1),), thing), NoNumber, {}),
    (lambda thing: without(turns_line(4), thing), NoLetters, {}),
    (lambda thing: without(turns_line(4), (0, thing)), NoLetters, {}),
    (lambda thing: Faults(thing, ()), BadFaults, {"part": "lost"}),
    (lambda thing: Faults(thing, thing), BadFaults, {"part": "lost"}),
    (lambda thing: Faults((0, thing), ()), BadFaults, {"part": "lost"}),
    (lambda thing: Faults((), thing), BadFaults, None),
    (lambda thing: Faults((), (thing,)), BadFaults, {"part": 0}),
    (lambda thing: Faults((), ((0, "a"), (thing, "a"))), BadFaults, {"part": 1}),
    (lambda thing: Faults((), ((0, "a"), (1, [thing]))), BadFaults, {"part": 1}),
    (lambda thing: carried(turns_line(4), (HOUSES[0], [thing]), SILENT, NONE), NoHouses, {}),
    (lambda thing: carried(turns_line(4), [thing, thing], SILENT, NONE), NoHouses, {}),
    (lambda thing: carried(turns_line(4), (thing, thing, thing), SILENT, NONE), NoHouses, {}),
    (lambda thing: carried(turns_line(4), HOUSES, writing(thing), NONE), BadLetter, {"letter": 0}),
    (lambda thing: carried(turns_line(4), HOUSES, SILENT, Hearing(lambda *told: (thing, thing))), BadEar, {"letter": 0}),
    (lambda thing: heard(turns_line(4), RECORD, thing, 0), NoHouse, {}),
    (lambda thing: heard(turns_line(4), RECORD, thing, thing), NoHouse, {}),
    (lambda thing: heard(turns_line(4), RECORD, 0, (thing,)), NoNumber, {}),
    (lambda thing: spread(turns_line(4), thing, thing, thing), NoHouse, {}),
    (lambda thing: spread(turns_line(4), 0, [thing], thing), NoNumber, {}),
    (lambda thing: spread(turns_line(4), 0, 0, thing), NoLetters, {}),
    (lambda thing: spread(turns_line(4), 0, 0, (0, thing)), NoLetters, {}),
    (lambda thing: earliest(turns_line(4), thing, thing, thing), NoOrder, {}),
    (lambda thing: earliest(turns_line(4), (0, thing), 0, ()), NoOrder, {}),
    (lambda thing: earliest(turns_line(4), (0, 1), thing, thing), NoIndex, {}),
    (lambda thing: earliest(turns_line(4), (0, 1), 0, thing), NoLetters, {}),
    (lambda thing: apart(turns_line(4), thing, 0), NoHouse, {}),
    (lambda thing: apart(turns_line(4), 0, thing), NoHouse, {}),
    (lambda thing: meeting(turns_line(4), thing, thing), NoHouse, {}),
    (lambda thing: are_apart(turns_line(4), thing, 0, thing), NoHouse, {}),
    (lambda thing: are_apart(turns_line(4), 0, thing, thing), NoHouse, {}),
    (lambda thing: is_meeting(turns_line(4), thing, thing, thing), NoHouse, {}),
    (lambda thing: is_meeting(turns_line(4), 0, thing, thing), NoHouse, {}),
    (lambda thing: bar(LINE, thing, thing, thing, thing), NoOrder, {}),
    (lambda thing: bar(LINE, (0, 1), thing, thing, thing), NoHouse, {}),
    (lambda thing: bar(LINE, (0, 1), 0, thing, thing), NoNumber, {}),
    (lambda thing: bar(LINE, (0, 1), 0, 0, thing), NoNumber, {}),
    (lambda thing: is_bar(LINE, (0, thing), thing, thing, thing, thing), NoOrder, {}),
    (lambda thing: is_bar(LINE, (0, 1), thing, thing, thing, thing), NoHouse, {}),
    (lambda thing: is_bar(LINE, (0, 1), 0, 0, thing, thing), NoNumber, {}),
    (lambda thing: gets_over(LINE, thing, thing, thing), NoOrder, {}),
    (lambda thing: gets_over(LINE, (0, 1), thing, 0), NoNumber, {}),
    (lambda thing: gets_over(turns_line(60), (0, 1), 8, thing), NoNumber, {}),
    (lambda thing: least_turns(thing, 0, 0), NoNumber, {}),
    (lambda thing: least_turns(1, 0, thing), NoNumber, {}),
    (lambda thing: least_both(1, thing, 0), NoNumber, {}),
    (lambda thing: least_both(thing, thing, thing), NoNumber, {}),
    (lambda thing: by_turns(thing), NoNumber, {}),
    (lambda thing: Votes(thing), NoOrder, {}),
    (lambda thing: Votes((0, thing)), NoOrder, {}),
    (lambda thing: tree(thing, thing, (), len), NoOrder, {}),
    (lambda thing: tree((0, 1), thing, (), len), NoHouse, {}),
    (lambda thing: Whole(LINE, thing, thing, thing), NoOrder, {}),
    (lambda thing: Whole(LINE, (0,), thing, thing), NoNumber, {}),
    (lambda thing: Whole(turns_line(60), (0,), 8, thing), NoNumber, {}),
    (lambda thing: is_state(LINE, thing, thing, thing), NoOrder, {}),
    (lambda thing: is_state(LINE, (0, 1), thing, thing), NoLetter, {}),
    (lambda thing: state_of(LINE, thing, thing, (), len), NoOrder, {}),
    (lambda thing: state_of(LINE, (0, 1), thing, (), len), NoHouse, {}),
    (lambda thing: fits(LINE, thing, thing, thing, thing), NoOrder, {}),
    (lambda thing: fits(LINE, (0, 1), thing, thing, thing), NoNumber, {}),
    (lambda thing: fits(LINE, (0, 1), 0, thing, thing), NoState, {}),
    (lambda thing: fits(LINE, (0, 1), 0, (0, (), ((thing, "a"),)), ()), NoState, {}),
    (lambda thing: fits(LINE, (0, 1), 0, STATE, thing), NoLetters, {}),
    (lambda thing: told_by(LINE, (0, 1), 0, thing, thing), NoState, {}),
    (lambda thing: told_by(LINE, (0, 1), 0, (0, (thing,), (((), "a"),)), ()), NoState, {}),
    (lambda thing: told_by(LINE, (0, 1), 0, STATE, (0, thing)), NoLetters, {}),
    (lambda thing: sure(LINE, thing, thing, thing, thing), NoOrder, {}),
    (lambda thing: sure(LINE, (0, 1), 0, thing, thing), NoNumber, {}),
    (lambda thing: sure(LINE, (0, 1), 0, 0, thing), NoState, {}),
    (lambda thing: sure(turns_line(60), (0, 1), 0, 8, (0, ((1, [thing]),), (((), "a"),))), NoState, {}),
    (lambda thing: fewest_turned(LINE, thing, thing, thing), NoOrder, {}),
    (lambda thing: fewest_turned(LINE, (0, 1), thing, thing), NoNumber, {}),
    (lambda thing: fewest_turned(turns_line(60), (0, 1), 0, thing), NoState, {}),
    (lambda thing: is_break(LINE, thing, thing, thing, thing, SILENT, thing), NoOrder, {}),
    (lambda thing: is_break(LINE, (0, 1), thing, thing, thing, SILENT, thing), NoHouse, {}),
    (lambda thing: is_break(LINE, (0, 1), 0, thing, thing, SILENT, thing), NoNumber, {}),
    (lambda thing: breaking(LINE, (0, thing), thing, thing, thing, SILENT), NoOrder, {}),
    (lambda thing: breaking(LINE, (0, 1), thing, thing, thing, SILENT), NoHouse, {}),
    (lambda thing: breaking(turns_line(60), (0, 1), 0, 8, thing, SILENT), NoNumber, {}),
    (lambda thing: breaking(LINE, (0, 1), 0, 2, 0, writing(thing)), BadLetter, {"letter": 0}),
    (lambda thing: AllAhead(thing, thing), NoOrder, {}),
    (lambda thing: AllAhead((0, thing), ("a", "b")), NoOrder, {}),
    (lambda thing: AllAhead((0,) * 40, (thing, thing)), NoKind, {}),
    (lambda thing: AllAhead((0, 1), ("", thing)), NoKind, {}),
    (lambda thing: AllAhead((0, 1), ["a", "b", thing]), NoKind, {}),
    (lambda thing: least_known(thing, thing, thing), NoOrder, {}),
    (lambda thing: least_known((0, 1), thing, thing), NoNumber, {}),
    (lambda thing: least_known((0, 1), 0, thing), NoNumber, {}),
    (lambda thing: Ear(thing, HOUSES[0], thing, thing, thing), NoHouse, {}),
    (lambda thing: Ear(0, HOUSES[0], thing, thing, thing), NoNumber, {}),
    (lambda thing: Ear(1, HOUSES[0], 1, thing, 0), NoNumber, {}),
    (lambda thing: Ear(1, HOUSES[0], 1, 0, thing), NoNumber, {}),
    (lambda thing: Ear(1, HOUSES[0], 1, 0, 0).hear([thing]), NoEar, {}),
    (lambda thing: Ear(1, HOUSES[0], 1, 0, 0).hear((thing, thing)), NoEar, {}),
    (lambda thing: Ear(1, HOUSES[0], 1, 0, 0).hear((((), [thing]),)), NoEar, {}),
    (lambda thing: Ear(0, HOUSES[0], 1, 0, 0).hear({0: thing}), NoEar, {}),
    (lambda thing: least_window(thing, 0), NoNumber, {}),
    (lambda thing: least_window(0, thing), NoNumber, {}),
    (lambda thing: blur(thing, 0), NoNumber, {}),
    (lambda thing: blur(0, thing), NoNumber, {}),
    (lambda thing: Routes(LINE, thing), NoHouse, {}),
    (lambda thing: taken(thing, thing, thing, thing, thing), NoHouses, {}),
    (lambda thing: taken(4, thing, thing, thing, thing), NoHouse, {}),
    (lambda thing: taken(4, 0, thing, thing, thing), NoHouse, {}),
    (lambda thing: taken(4, 0, 0, thing, thing), NoOther, {}),
    (lambda thing: taken(4, 0, 1, thing, thing), NoNumber, {}),
    (lambda thing: taken(4, 0, 1, 4, thing), NoTellings, {}),
    (lambda thing: taken(4, 0, 1, 4, (("w", (0,)), thing)), NoTellings, {}),
    (lambda thing: taken(4, 0, 1, 4, (("w", (0, thing)),)), NoTellings, {}),
    (lambda thing: taken(4, 0, 1, 4, (("w", thing),)), NoTellings, {}),
    (lambda thing: taken(4, 0, 1, 4, ((thing, (0,)),)), NoTellings, {}),
    (lambda thing: all_met(LINE, thing, 0, thing), NoHouse, {}),
    (lambda thing: all_met(LINE, 0, thing, thing), NoHouse, {}),
    (lambda thing: all_met(LINE, 1, 1, thing), NoOther, {}),
    (lambda thing: all_met(LINE, 1, 0, (thing,)), NoNumber, {}),
    (lambda thing: two_worlds(LINE, thing, thing, thing), NoHouse, {}),
    (lambda thing: two_worlds(LINE, 1, 1, thing), NoOther, {}),
    (lambda thing: two_worlds(LINE, 1, 0, [thing]), NoNumber, {}),
    (lambda thing: lied(LINE, thing, 0, thing, thing), NoHouse, {}),
    (lambda thing: lied(LINE, 0, 0, thing, thing), NoOther, {}),
    (lambda thing: lied(LINE, 0, 1, thing, thing), NoWord, {}),
    (lambda thing: lied(LINE, 0, 1, "w", [thing]), NoLiars, {}),
    (lambda thing: lied(LINE, 0, 1, "w", {0: thing}), NoLiars, {}),
    (lambda thing: lied(LINE, 0, 1, "w", {"2": thing}), NoLiars, {}),
    (lambda thing: thing_text([thing]), NoThing, {}),
    (lambda thing: thing_text((0, {1: thing})), NoThing, {}),
    (lambda thing: record_line([thing]), NoThing, {}),
    (lambda thing: Disk().write((thing,)), NoLine, {}),
    (lambda thing: Disk().cut([thing]), NoCut, {}),
    (lambda thing: Disk().cut((thing,)), NoCut, {}),
    (lambda thing: Disk().drop(thing), NoNumber, {}),
    (lambda thing: SavedEar(thing, HOUSES[0], thing, thing, thing, thing), NoHouse, {}),
    (lambda thing: SavedEar(0, HOUSES[0], thing, thing, thing, thing), NoNumber, {}),
    (lambda thing: SavedEar(0, HOUSES[0], 1, thing, 0, thing), NoNumber, {}),
    (lambda thing: SavedEar(0, HOUSES[0], 1, 0, thing, thing), NoNumber, {}),
    (lambda thing: SavedEar(0, HOUSES[0], 1, 0, 0, [thing]), NoDisk, {}),
    (lambda thing: SavedEar(0, HOUSES[0], 1, 0, 0, Disk()).down(thing), NoNumber, {}),
    (lambda thing: SavedEar(0, HOUSES[0], 1, 0, 0, Disk()).hear((thing, thing)), NoEar, {}),
    (lambda thing: SavedEar(1, HOUSES[0], 1, 0, 0, Disk()).hear([thing]), NoEar, {}),
    (lambda thing: bar_picture(LINE, thing), NoBarShown, {}),
    (lambda thing: bar_picture(LINE, (0, thing, thing)), NoBarShown, {}),
    (lambda thing: bar_picture(LINE, (0, (), thing)), NoBarShown, {}),
    (lambda thing: bar_picture(LINE, (0, (thing,), ())), NoBarShown, {}),
    (lambda thing: Desk().tell(thing), NoLine, {}),
    (lambda thing: Desk().tell((thing,)), NoLine, {}),
    (lambda thing: order_text(thing), NoOrder, {}),
    (lambda thing: order_text((0, thing)), NoOrder, {}),
]


class WrongArguments(unittest.TestCase):
    def test_each_call_with_each_odd_thing(self):
        for at, (call, kind, fields) in enumerate(CALLS):
            for thing in odd_things():
                before = repr(thing)
                with self.assertRaises(kind, msg=f"call {at} with {before[:80]}") as caught:
                    call(thing)
                self.assertIs(type(caught.exception), kind)
                if fields is not None:
                    self.assertEqual(vars(caught.exception), fields)
                self.assertEqual(repr(thing), before)

    def test_each_call_with_what_python_has(self):
        things = [thing for thing in things_of_python() if not isinstance(thing, (int, str, tuple, list, dict))]
        self.assertGreater(len(things), 40)
        for at, (call, kind, fields) in enumerate(CALLS):
            for thing in things:
                with self.assertRaises(kind, msg=f"call {at} with {thing!r}") as caught:
                    call(thing)
                if fields is not None:
                    self.assertEqual(vars(caught.exception), fields)

    def test_a_tuple_that_holds_an_odd_thing_is_wrong_there(self):
        for thing in odd_things():
            with self.assertRaises(BadTable) as caught:
                Table(thing, "a")
            is_short = isinstance(thing, tuple) and len(thing) <= 200
            self.assertEqual(caught.exception.part, 0 if is_short else "pairs")
            with self.assertRaises(BadSchedule) as caught:
                Schedule(2, thing)
            is_short = isinstance(thing, tuple) and len(thing) <= 60
            self.assertEqual(caught.exception.part, 0 if is_short else "letters")

    def test_no_program_and_no_text(self):
        for thing in odd_things():
            before = repr(thing)
            if not isinstance(thing, Program):
                with self.assertRaises(NoProgram):
                    program_text(thing)
            with self.assertRaises(BadText) as caught:
                read_program(thing)
            self.assertEqual(caught.exception.line, 1 if isinstance(thing, str) else 0)
            self.assertEqual(repr(thing), before)

    def test_what_is_judged(self):
        for thing in [*odd_things(), (), ("a",), ("a", "b"), ["a", "a"]]:
            before = repr(thing)
            self.assertIs(is_talk(HOUSES, (0, 1), thing), False)
            self.assertIs(are_apart(turns_line(4), 0, 1, thing), thing == [])
            self.assertIs(is_meeting(turns_line(4), 0, 1, thing), False)
            self.assertIs(is_bar(LINE, (0,), 1, 0, 1, thing), False)
            self.assertIs(is_state(LINE, (0, 1), 0, thing), False)
            self.assertIs(is_break(LINE, (0,), 1, 0, 1, SILENT, thing), False)
            self.assertEqual(repr(thing), before)
        self.assertIs(is_talk(HOUSES, (0, 1), ("a", "a")), True)


if __name__ == "__main__":
    unittest.main()
