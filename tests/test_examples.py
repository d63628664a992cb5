"""The examples of the document."""

import unittest

from turnedtalk.bars import bar, gets_over, least_both, least_turns
from turnedtalk.disks import record_line
from turnedtalk.ears import least_window
from turnedtalk.faults import Faults
from turnedtalk.houses import Table, talk
from turnedtalk.kinds import least_known
from turnedtalk.liars import all_met
from turnedtalk.programs import Program, program_text
from turnedtalk.records import carried
from turnedtalk.schedules import net_schedule, turns_line
from turnedtalk.texts import order_text, thing_text
from turnedtalk.votes import Votes
from turnedtalk.walks import earliest, spread
from turnedtalk.ways import meeting

P = (Table((((), "a"),), "b"), Table(((("a",), "c"),), "d"))
S = turns_line(4)


class Examples(unittest.TestCase):
    def test_e01(self):
        self.assertEqual(talk(P, (0, 1, 0)), ("a", "c", "b"))

    def test_e02(self):
        self.assertEqual(spread(S, 0, 1, ()), (1, 3))
        self.assertEqual(earliest(S, (0, 1, 0), 2, (0,)), 4)

    def test_e03(self):
        self.assertEqual(bar(S, (0,), 1, 0, 1), (0, (), (0, 2)))
        self.assertIs(gets_over(turns_line(5), (0,), 0, 1), True)

    def test_e04(self):
        self.assertEqual((least_turns(3, 1, 2), least_both(3, 1, 2)), (13, 8))

    def test_e05(self):
        self.assertEqual(meeting(turns_line(5), 0, 1), (0, 2, 4))

    def test_e06(self):
        record = carried(turns_line(5), P, Votes((0,)), Faults((), ((0, (((), "x"),)),)))
        self.assertEqual(record.told, (("a",), ("a",)))

    def test_e07(self):
        self.assertEqual((least_window(1, 1), least_known((0, 1, 0), 1, 1)), (7, 8))

    def test_e08(self):
        self.assertEqual(all_met(net_schedule(3, ((0, 1), (1, 2)), 2), 0, 2, 1), (1,))

    def test_e09(self):
        self.assertEqual((record_line(None), thing_text(("a", None, 5))), ("- 45", "('a',-,5)"))

    def test_e10(self):
        self.assertEqual((order_text((0, 1)), program_text(Program((("say", ("last",)),)))), ("order 0 1\n", "say last\n"))


if __name__ == "__main__":
    unittest.main()
