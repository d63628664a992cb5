"""13.3: the Desk."""

import random
import unittest

from tests.odd import odd_things
from tests.own import own_bars, own_run, random_schedule
from tests.own_states import is_own_thing
from tests.test_liars import own_all_met
from tests.test_texts import own_text
from turnedtalk.bars import bar, gets_over, is_bar
from turnedtalk.desks import Desk
from turnedtalk.errors import (
    BadFaults, BadProgram, BadSchedule, BadText, NoHouse, NoHouses, NoLine, NoName, NoNumber, NoOrder, NoOther, TalkError, TooMany,
)
from turnedtalk.faults import Faults
from turnedtalk.houses import talk
from turnedtalk.pictures import picture
from turnedtalk.programs import program_text, read_program
from turnedtalk.records import carried
from turnedtalk.schedules import both_line, net_schedule, turns_line
from turnedtalk.texts import faults_text, order_text, read_thing, schedule_text
from turnedtalk.votes import Votes
from turnedtalk.ways import apart
from turnedtalk.wholes import Whole

SAY_A = 'say "a"|'
ECHO = 'each w|  let all join(w, all)|end|say join(first(all), many)|'


def as_line(text):
    return text.replace("\n", "|")


class DeskTest(unittest.TestCase):
    def setUp(self):
        self.desk = Desk()

    def ok(self, *lines):
        for line in lines:
            self.assertEqual(self.desk.tell(line), "ok", line)

    def fault(self, told, error, **fields):
        """The line raises this error, and changes nothing of what the lines kept."""
        before = self.everything()
        with self.assertRaises(error, msg=repr(told)[:80]) as caught:
            self.desk.tell(told)
        self.assertIs(type(caught.exception), error)
        self.assertEqual(vars(caught.exception), fields)
        self.assertEqual(self.everything(), before)

    def everything(self):
        """What the desk tells of names that the tests use."""
        told = []
        for name in ["a", "b", "s", "o", "f", "h", "line", "many", "abcdefgh"]:
            for line in [
                f"apart {name} 0 1", f"over s {name} 0 0", f"over {name} o 0 0", f"talk {name} h h", f"talk o {name} h",
                f"show s o h h {name}",
            ]:
                try:
                    told.append(self.desk.tell(line))
                except TalkError as error:
                    told.append((type(error), vars(error)))
        return told


class Keeping(DeskTest):
    def test_each_sort(self):
        self.ok("schedule s houses 2|letter 0 1 0|letter 1 0 1|letter 0 1 2|", "order o order 0|", "faults f lost 1|turned 2 'x'|")
        self.ok("house h " + SAY_A)
        self.assertEqual(self.desk.tell("apart s 0 1"), "2")
        self.assertEqual(self.desk.tell("talk o h h"), "('a')")
        self.assertEqual(self.desk.tell("show s o h h f"), "0 0>1.|1 1>0x|2 0>1!|")

    def test_lines_and_both(self):
        for number in [0, 1, 9, 10, 30]:
            self.ok(f"line s {number}", f"both b {number}")
            self.assertEqual(self.desk.tell("apart s 0 1"), str(len(apart(turns_line(number), 0, 1))))
            self.assertEqual(self.desk.tell("apart b 0 1"), str(number))
        self.ok("line s 60")
        self.assertEqual(self.desk.tell("apart s 0 1"), "30")
        for line in ["line s 61", "both s 31", "line s 999999999", "both q 100"]:
            self.fault(line, NoNumber)
        self.assertEqual(self.desk.tell("apart s 0 1"), "30")

    def test_the_same_name_for_several_sorts(self):
        self.ok("line a 3", "order a order 0 1|", "faults a lost|", "house a " + SAY_A)
        self.assertEqual(self.desk.tell("talk a a a"), "('a','a')")
        self.assertEqual(self.desk.tell("votes a a a a a"), "(('a','a'),('a','a'))")
        self.assertEqual(self.desk.tell("show a a a a a"), "0 0>1.|1 1>0.|2 0>1.|")

    def test_kept_anew(self):
        self.ok("line s 1", "line s 3", "order o order 0|", "order o order 1|", "house h " + SAY_A, 'house h say "b"|')
        self.assertEqual(self.desk.tell("apart s 0 1"), "2")
        self.assertEqual(self.desk.tell("talk o h h"), "('b')")
        self.ok("both s 5", "faults f lost 0|", "faults f lost|")
        self.assertEqual(self.desk.tell("apart s 0 1"), "5")
        self.assertEqual(self.desk.tell("show s o h h f"), "".join(f"{beat} 0>1. 1>0.|" for beat in range(5)))
        self.ok("schedule s houses 3|letter 0 2 7|")
        self.assertEqual(self.desk.tell("apart s 0 2"), "1")

    def test_names(self):
        for name in ["a", "z", "abcdefgh", "many", "last", "line", "schedule", "order", "none", "ok"]:
            self.ok(f"line {name} 1", f"order {name} order 0|", f"faults {name} lost|", f"house {name} {SAY_A}")
            self.assertEqual(self.desk.tell(f"votes {name} {name} {name} {name} {name}"), "(('a'),('a'))")
        for name in ["", "A", "aB", "a1", "1", "a_b", "abcdefghi", "a-", "\xe9", "a\t", "|", "'a'", "\xaa"]:
            for line in [
                f"line {name} 1", f"both {name} 1", f"order {name} order 0|", f"faults {name} lost|", f"house {name} {SAY_A}",
                f"schedule {name} houses 2|", f"over {name} many 0 0", f"talk many {name} many", f"apart {name} 0 1",
            ]:
                self.fault(line, NoLine)

    def test_desks_are_apart(self):
        other = Desk()
        other.tell("line a 1")
        self.fault("apart a 0 1", NoName, name="a")
        self.assertFalse(self.desk == Desk().tell or self.desk == "ok")


class Lines(DeskTest):
    def setUp(self):
        super().setUp()
        self.ok("line s 5", "order o order 0 1|", "faults f lost|", "house h " + SAY_A)

    def test_no_strings(self):
        for thing in odd_things() + [b"line s 5", ["line s 5"], ("line s 5",), None, 0, Desk()]:
            self.fault(thing, NoLine)

    def test_line_feeds(self):
        for line in ["line s 5\n", "\nline s 5", "line s\n5", "order o order 0\n", "house h say \"a\"\n", "\n"]:
            self.fault(line, NoLine)

    def test_no_forms(self):
        right = [
            "line s 5", "both s 5", "bar s o 0 0 0", "over s o 0 0", "apart s 0 1", "met s 0 1 0", "talk o h h", "votes s o h h f",
            "whole s o h h f 0 0", "show s o h h f",
        ]
        for line in right:
            self.desk.tell(line)
            words = line.split(" ")
            for wrong in [
                line + " ", " " + line, line + " 0", line + " h", " ".join(words[:-1]), words[0], words[0] + " ", line.upper(),
                line.replace(" ", "  ", 1), line.replace(" ", "\t", 1), "  ".join(words), line.replace(" ", ""), line + "|",
                words[0] + "s" + line[len(words[0]):], line[1:], words[0].title() + line[len(words[0]):], line + ".", line + "\r",
            ]:
                self.fault(wrong, NoLine)
            for at in range(1, len(words)):
                for part in ["", "-", "00", "-1", "+1", "1.", "1234567890", "A", "abcdefghi", "'a'", "|", "none", "0"]:
                    if words[at].isdigit() and part == "0" or words[at].isalpha() and part == "none":
                        continue
                    self.fault(" ".join([*words[:at], part, *words[at + 1:]]), NoLine)
        for wrong in ["", " ", "x", "kept s", "tell", "a b c", "s", "ok", "0", "bar s o 0 0", "bar o", "help"]:
            self.fault(wrong, NoLine)

    def test_numbers(self):
        for number in ["0", "1", "7"]:
            self.desk.tell(f"met s 0 1 {number}")
        self.assertEqual(self.desk.tell("met s 0 1 999999999"), "none")
        for number in ["1000000000", "01", "00", "0000000001", "", "-0", "1 ", "a", "\u0661", "1e3", "0x1"]:
            self.fault(f"met s 0 1 {number}", NoLine)
            self.fault(f"line s {number}", NoLine)
            self.fault(f"bar s o {number} 0 0", NoLine)

    def test_texts_lack(self):
        for word in ["schedule", "order", "faults", "house"]:
            for line in [word, word + " ", word + " s", word + " s ", word + "  s x", word + " s1 x", word + " s\tx"]:
                self.fault(line, NoLine)

    def test_texts_are_read(self):
        for line, place in [
            ("schedule s  houses 2|", 1), ("schedule s houses 2", 1), ("schedule s houses 2||", 2), ("schedule s |", 1),
            ("schedule s houses 2|letter 0 1|", 2), ("order o order 0|order 1|", 2), ("order o  ", 1), ("order o order  0|", 1),
            ("faults f lost|turned 0 'a|b'|", 2), ("faults f turned|", 1), ("house h say|", 1), ("house h say many|end|", 2),
            ("house h say \"a|\"|", 1), ("house h x", 1), ("order o 0 1", 1), ("faults f  lost|", 1), ("order o order 0| ", 2),
        ]:
            self.fault(line, BadText, line=place)
        self.fault("schedule s houses 9|", BadSchedule, part="many")
        self.fault("schedule s houses 2|letter 0 0 0|", BadSchedule, part=0)
        self.fault("order o order|", NoOrder)
        self.fault("order o order 8|", NoOrder)
        self.fault("faults f lost 60|", BadFaults, part="lost")
        self.fault("faults f lost 1|turned 1 -|", BadFaults, part=0)
        self.fault("house h each a|  each b|    each c|    end|  end|end|", BadProgram)
        # what is kept is not asked for
        self.fault("order q order|", NoOrder)
        self.fault("talk q h h", NoName, name="q")

    def test_texts_written_by_the_package(self):
        chance = random.Random(1331)
        for _ in range(40):
            schedule = random_schedule(chance, 2, chance.randint(0, 12), 9)
            order = tuple(chance.randrange(2) for _ in range(chance.randint(1, 4)))
            letters = chance.sample(range(12), 4)
            faults = Faults(tuple(sorted(letters[:2])), tuple((number, ("x", None)) for number in sorted(letters[2:])))
            house = read_program(chance.choice(['say "a~"b"\n', "say last\n", "if in(last, many)\n  say many\nelse\nend\n"]))
            self.ok(
                "schedule a " + as_line(schedule_text(schedule)), "order a " + as_line(order_text(order)),
                "faults a " + as_line(faults_text(faults)), "house a " + as_line(program_text(house)),
            )
            record = carried(schedule, (house, house), Votes(order), faults)
            self.assertEqual(self.desk.tell("votes a a a a a"), own_text(record.told))
            self.assertEqual(self.desk.tell("show a a a a a"), as_line(picture(schedule, record)))

    def test_names_under_which_nothing_is_kept(self):
        for line, name in [
            ("bar q r 9 9 9", "q"), ("bar s r 9 9 9", "r"), ("bar o s 0 0 0", "o"), ("over q o 0 0", "q"), ("over s q 9 9", "q"),
            ("apart q 5 5", "q"), ("apart o 0 1", "o"), ("met q 0 0 0", "q"), ("talk q r t", "q"), ("talk o r t", "r"),
            ("talk o h t", "t"), ("talk s h h", "s"), ("votes q r t u v", "q"), ("votes s r t u v", "r"), ("votes s o t u v", "t"),
            ("votes s o h u v", "u"), ("votes s o h h v", "v"), ("whole q o h h f 9 9", "q"), ("whole s o h h v 9 9", "v"),
            ("whole s o f h f 0 0", "f"), ("show s o h h h", "h"), ("show q q q q q", "q"), ("show s s s s s", "s"),
        ]:
            self.fault(line, NoName, name=name)

    def test_what_the_functions_raise(self):
        self.ok("order w order 0 2|", "schedule t houses 3|letter 0 1 0|letter 1 2 1|", "line l 60")
        self.fault("bar s w 9 9 9", NoOrder)
        self.fault("bar s o 2 9 9", NoHouse)
        self.fault("bar s o 1 9 0", NoNumber)
        self.fault("bar s o 1 0 9", NoNumber)
        self.fault("bar l o 1 4 4", TooMany, most=200000)
        self.fault("over s w 9 9", NoOrder)
        self.fault("over s o 9 0", NoNumber)
        self.fault("over l o 4 4", TooMany, most=200000)
        self.fault("apart s 2 0", NoHouse)
        self.fault("apart s 0 999999999", NoHouse)
        self.fault("apart s 1 1", NoOther)
        self.fault("met s 2 0 0", NoHouse)
        self.fault("met s 0 0 0", NoOther)
        self.fault("talk w h h", NoOrder)
        # the manner is made first
        self.fault("votes t w h h f", NoOrder)
        self.fault("votes t o h h f", NoHouses)
        self.fault("show t w h h f", NoOrder)
        self.fault("show t o h h f", NoHouses)
        self.fault("whole s w h h f 9 9", NoOrder)
        self.fault("whole t w h h f 9 0", NoNumber)
        self.fault("whole t w h h f 0 0", NoHouses)
        self.fault("whole t o h h f 0 9", NoNumber)
        self.fault("whole l o h h f 4 4", TooMany, most=200000)


class Answers(DeskTest):
    def bar_of(self, text):
        """The triple that the answer tells."""
        if text == "none":
            return None
        index, rest = text.split(": ")
        lots = [() if lot == "-" else tuple(int(number) for number in lot.split(" ")) for lot in rest.split(" / ")]
        self.assertEqual(len(lots), 2)
        return (int(index), *lots)

    def test_bars(self):
        chance = random.Random(1332)
        self.ok("line s 4", "order o order 0|")
        self.assertEqual(self.desk.tell("bar s o 1 0 1"), "0: - / 0 2")
        self.assertEqual(self.desk.tell("bar s o 1 1 0"), "none")
        seen = {True: 0, False: 0}
        for _ in range(150):
            many = chance.randint(2, 4)
            schedule = random_schedule(chance, many, chance.randint(0, 7), 4)
            order = tuple(chance.randrange(many) for _ in range(chance.randint(1, 3)))
            lost, turned = chance.randrange(2), chance.randrange(2)
            self.ok("schedule s " + as_line(schedule_text(schedule)), "order o " + as_line(order_text(order)))
            over = True
            for goal in range(many):
                found = self.bar_of(self.desk.tell(f"bar s o {goal} {lost} {turned}"))
                first = next(own_bars(schedule, order, goal, lost, turned), None)
                self.assertEqual(found is None, first is None)
                self.assertEqual(found is None, bar(schedule, order, goal, lost, turned) is None)
                if found is not None:
                    over = False
                    self.assertTrue(is_bar(schedule, order, goal, lost, turned, found))
            seen[over] += 1
            self.assertEqual(self.desk.tell(f"over s o {lost} {turned}"), "yes" if over else "no")
            self.assertEqual(gets_over(schedule, order, lost, turned), over)
        self.assertGreater(min(seen.values()), 20)

    def test_apart_and_met(self):
        chance = random.Random(1333)
        told = []
        for _ in range(150):
            many = chance.randint(2, 6)
            schedule = random_schedule(chance, many, chance.randint(0, 14), 4)
            self.ok("schedule s " + as_line(schedule_text(schedule)))
            house, other = chance.sample(range(many), 2)
            self.assertEqual(self.desk.tell(f"apart s {house} {other}"), str(len(apart(schedule, house, other))))
            for most in (0, 1, 2, 999999999):
                lot = own_all_met(schedule, house, other, most)
                text = "none" if lot is None else " ".join(str(one) for one in lot) or "-"
                self.assertEqual(self.desk.tell(f"met s {house} {other} {most}"), text)
                told.append(text)
        self.assertTrue({"none", "-"} < set(told))
        net = net_schedule(4, ((0, 1), (0, 2), (1, 3), (2, 3)), 2)
        self.ok("schedule s " + as_line(schedule_text(net)))
        self.assertEqual(self.desk.tell("met s 0 3 2"), "1 2")

    def test_talks(self):
        self.ok("house a " + SAY_A, "house e " + ECHO, 'house q say "~"~~\'"|', "order o order 0 1 0 1|", "order one order 1|")
        houses = {"a": read_program('say "a"\n'), "e": read_program(ECHO.replace("|", "\n")), "q": read_program('say "~"~~\'"\n')}
        for one in "aeq":
            for other in "aeq":
                for name, order in [("o", (0, 1, 0, 1)), ("one", (1,))]:
                    row = talk((houses[one], houses[other]), order)
                    self.assertEqual(self.desk.tell(f"talk {name} {one} {other}"), own_text(row))
        self.assertEqual(self.desk.tell("talk one a q"), "('\"~~~'')")

    def test_runs(self):
        chance = random.Random(1334)
        programs = {"a": SAY_A, "e": ECHO, "l": "say join(last, \"x\")|"}
        houses = {name: read_program(text.replace("|", "\n")) for name, text in programs.items()}
        self.ok(*[f"house {name} {text}" for name, text in programs.items()])
        for _ in range(80):
            schedule = chance.choice([turns_line, both_line])(chance.randint(0, 6))
            order = tuple(chance.randrange(2) for _ in range(chance.randint(1, 3)))
            many = len(schedule.letters)
            chosen = sorted(chance.sample(range(many + 2), min(2, many)))
            things = [None, "x", (((), "x"),), (((), "a"), (("a",), "b"))]
            faults = Faults(tuple(chosen[:1]), tuple((number, chance.choice(things)) for number in chosen[1:]))
            self.ok(
                "schedule s " + as_line(schedule_text(schedule)), "order o " + as_line(order_text(order)),
                "faults f " + as_line(faults_text(faults)),
            )
            one, other = chance.choice("ael"), chance.choice("ael")
            pair = (houses[one], houses[other])
            _, _, told, _ = own_run(schedule, pair, Votes(order), faults)
            self.assertEqual(self.desk.tell(f"votes s o {one} {other} f"), own_text(told))
            lost, turned = chance.randrange(2), chance.randrange(2)
            _, _, told, _ = own_run(schedule, pair, Whole(schedule, order, lost, turned), faults)
            self.assertEqual(self.desk.tell(f"whole s o {one} {other} f {lost} {turned}"), own_text(told))
            text = self.desk.tell(f"show s o {one} {other} f")
            self.assertNotIn("\n", text)
            self.assertEqual(text, as_line(picture(schedule, carried(schedule, pair, Votes(order), faults))))
        self.assertTrue(is_own_thing(read_thing(self.desk.tell(f"votes s o {one} {other} f"))))

    def test_whole_where_votes_do_not(self):
        # one word by three houses' letters is not for Votes; of two houses' lines Whole tells what Votes tell
        self.ok("line s 7", "order o order 0 1 0|", "faults f lost|turned 2 'nonsense'|", "house a " + SAY_A, "house e " + ECHO)
        self.assertEqual(self.desk.tell("votes s o a e f"), "(('a','a1','a'),('a','a1','a'))")
        self.assertEqual(self.desk.tell("whole s o a e f 0 1"), "(('a','a1','a'),('a','a1','a'))")
        self.assertEqual(self.desk.tell("show s o a e f"), "0 0>1.|1 1>0.|2 0>1!|3 1>0.|4 0>1.|5 1>0.|6 0>1.|")


if __name__ == "__main__":
    unittest.main()
