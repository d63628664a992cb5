"""13.1: texts of things, schedules, orders, faults, and what is read from them."""

import random
import unittest

from tests.odd import nested_tuple, odd_things
from tests.own import random_schedule, same
from tests.own_states import is_own_thing
from turnedtalk.errors import BadFaults, BadSchedule, BadText, BadThing, NoOrder, NoThing
from turnedtalk.faults import Faults
from turnedtalk.schedules import Schedule, both_line, turns_line
from turnedtalk.texts import (
    faults_text, order_text, read_faults, read_order, read_schedule, read_thing, schedule_text, thing_text,
)

SIGNS = [chr(number) for number in range(32, 127)] + ["\n"]
LEAVES = [
    None, True, False, 0, 1, -1, 7, 10, -10, 99999, 10 ** 20 - 1, -(10 ** 20 - 1), "", "a", "'", "~", "\n", "~n", "~~'", "a b",
    "(", ")", ",", "-", "yes", "no", "0", '"', "n\n'", "".join(SIGNS),
]


def drawn_thing(chance, most):
    if most == 0 or chance.random() < 0.4:
        if chance.random() < 0.5:
            return chance.choice(LEAVES[:-1])
        return "".join(chance.choice(["a", "'", "~", "\n", " ", ",", ")", "n", "-"]) for _ in range(chance.randrange(5)))
    return tuple(drawn_thing(chance, most - 1) for _ in range(chance.randrange(4)))


def own_text(thing):
    """13.1, by a call for each thing."""
    if isinstance(thing, tuple):
        return "(" + ",".join(own_text(part) for part in thing) + ")"
    if isinstance(thing, str):
        return "'" + "".join({"'": "~'", "~": "~~", "\n": "~n"}.get(sign, sign) for sign in thing) + "'"
    return {None: "-", True: "yes", False: "no"}[thing] if thing is None or isinstance(thing, bool) else str(thing)


class Stop(Exception):
    """No text of a thing can go on at this place."""


def own_end(text, at, deep):
    """Where the longest thing text that begins at this place ends, all that can follow it being looked at behind."""
    sign = text[at:at + 1]
    if sign == "(" and deep < 40:
        at += 1
        if text[at:at + 1] == ")":
            return at + 1
        while True:
            at = own_end(text, at, deep + 1)
            if text[at:at + 1] == ")":
                return at + 1
            if text[at:at + 1] != ",":
                raise Stop(at)
            at += 1
    if sign == "'":
        at += 1
        while text[at:at + 1] != "'":
            pair = text[at:at + 2]
            if pair in ("~~", "~'", "~n"):
                at += 2
            elif pair[:1] == "~":
                raise Stop(at + 1)
            elif pair == "" or pair[0] not in SIGNS[:-1]:
                raise Stop(at)
            else:
                at += 1
        return at + 1
    for word in ("yes", "no"):
        if sign == word[0]:
            for place, letter in enumerate(word):
                if text[at + place:at + place + 1] != letter:
                    raise Stop(at + place)
            return at + len(word)
    begin = at + 1 if sign == "-" else at
    figure = text[begin:begin + 1]
    if sign == "-" and (figure == "" or figure not in "123456789"):
        return begin
    if figure == "" or figure not in "0123456789":
        raise Stop(begin)
    if figure == "0":
        return begin + 1
    end = begin
    while end < begin + 20 and text[end:end + 1] != "" and text[end] in "0123456789":
        end += 1
    return end


def own_place(text):
    """The place at which no text can go on, None for the text of a thing."""
    try:
        end = own_end(text, 0, 0)
    except Stop as stop:
        return stop.args[0]
    return None if end == len(text) else end


class Reading(unittest.TestCase):
    def place(self, text):
        with self.assertRaises(BadThing, msg=repr(text)[:80]) as caught:
            read_thing(text)
        return caught.exception.place

    def text_fault(self, reading, text):
        with self.assertRaises(BadText, msg=repr(text)[:80]) as caught:
            reading(text)
        return caught.exception.line


class ThingTexts(Reading):
    def test_forms(self):
        for thing, text in [
            (None, "-"), (True, "yes"), (False, "no"), (0, "0"), (1, "1"), (-5, "-5"), (10 ** 19, "1" + "0" * 19), ("", "''"),
            ("a'b", "'a~'b'"), ("~", "'~~'"), ("a\nb", "'a~nb'"), ("n", "'n'"), ((), "()"), ((None,), "(-)"),
            (("a", None, 5), "('a',-,5)"), (((), ((),)), "((),(()))"), ((True, 1, "1", (False, 0)), "(yes,1,'1',(no,0))"),
            ("yes", "'yes'"), (-(10 ** 20 - 1), "-" + "9" * 20), ('"', "'\"'"), ("\n\n", "'~n~n'"),
        ]:
            self.assertEqual(thing_text(thing), text)
            self.assertTrue(same(read_thing(text), thing))

    def test_written_is_read_back(self):
        chance = random.Random(131)
        texts = {}
        for thing in LEAVES + [drawn_thing(chance, 5) for _ in range(3000)]:
            text = thing_text(thing)
            self.assertEqual(text, own_text(thing))
            self.assertTrue(same(read_thing(text), thing))
            self.assertTrue(same(texts.setdefault(text, thing), thing))

    def test_deep_ones(self):
        self.assertEqual(thing_text(nested_tuple(39)), "(" * 40 + ")" * 40)
        self.assertEqual(read_thing("(" * 40 + ")" * 40), nested_tuple(39))
        self.assertEqual(read_thing("(" * 40 + "1,no" + ")" * 40), nested_tuple(39, (1, False)))
        self.assertEqual(thing_text(nested_tuple(40, "a")), "(" * 40 + "'a'" + ")" * 40)
        for thing in [nested_tuple(40), nested_tuple(41, 0), nested_tuple(300), nested_tuple(5000), (1, (2, nested_tuple(38)))]:
            with self.assertRaises(NoThing):
                thing_text(thing)
        wide = (nested_tuple(38),) * 50
        self.assertTrue(same(read_thing(thing_text(wide)), wide))
        for behind in ["", ")", "(", "1", ")" * 41, "())"]:
            self.assertEqual(self.place("(" * 41 + behind), 40)
            self.assertEqual(self.place("(1," + "(" * 40 + behind), 42)

    def test_wide_and_long_ones(self):
        for thing in [(None,) * 20000, "'~\n" * 6000, ("a" * 20000,) * 3, tuple(range(5000))]:
            self.assertTrue(same(read_thing(thing_text(thing)), thing))

    def test_no_things(self):
        for thing in odd_things():
            if is_own_thing(thing) and not (isinstance(thing, tuple) and thing == nested_tuple(40)):
                self.assertTrue(same(read_thing(thing_text(thing)), thing))
            else:
                for wrong in [thing, (thing,), (1, ((thing,), 2))]:
                    with self.assertRaises(NoThing):
                        thing_text(wrong)

    def test_no_strings(self):
        for thing in [*odd_things(), b"-", ["-"], ("-",), {}, None]:
            if not isinstance(thing, str):
                self.assertEqual(self.place(thing), -1)

    def test_places(self):
        for text, place in [
            ("", 0), ("-0", 1), ("00", 1), ("01", 1), ("-01", 1), ("--", 1), ("-a", 1), ("+1", 0), ("1 ", 1), (" 1", 0), ("1.", 1),
            ("y", 1), ("ye", 2), ("yes ", 3), ("yeS", 2), ("n", 1), ("nO", 1), ("none", 2), ("None", 0), ("a", 0), ("Y", 0),
            ("'", 1), ("'a", 2), ("'~", 2), ("'~a'", 2), ("'~N'", 2), ("'\n'", 1), ("'a'b", 3), ("''''", 2), ("'~'", 3),
            ("(", 1), ("(1", 2), ("(1,", 3), ("(1,)", 3), ("(,1)", 1), ("(,", 1), (")", 0), ("())", 2), ("(1 ,2)", 2), ("(1, 2)", 3),
            ("(1;2)", 2), ("()()", 2), ("(-0)", 2), ("(1)2", 3), ("((1)", 4), ("1,2", 1), (",", 0), ("~", 0), ("(no,yep)", 6),
            ("1" * 21, 20), ("-" + "1" * 21, 21), ("(" + "9" * 21 + ")", 21), ("1\n", 1), ("\n", 0), ("(\n)", 1), ("(')", 3),
            ("1e5", 1), ("0x1", 1), ("1_0", 1), ("'\xe9'", 1), ("'a\x7f'", 2), ("\u0661", 0), ("1\u0661", 1), ("'\t'", 1),
        ]:
            self.assertEqual(self.place(text), place, text)
            self.assertEqual(own_place(text), place, text)
        self.assertEqual(read_thing("1" * 20), int("1" * 20))
        self.assertEqual(read_thing("-" + "9" * 20), -int("9" * 20))

    def check(self, text):
        place = own_place(text)
        if place is None:
            self.assertEqual(thing_text(read_thing(text)), text)
            return
        self.assertEqual(self.place(text), place)
        # up to there it can go on, and with the sign there it can't
        if own_place(text[:place]) is not None:
            self.assertEqual(self.place(text[:place]), place)
        self.assertEqual(self.place(text[:place + 1]), place)

    def test_each_place_changed(self):
        chance = random.Random(132)
        texts = [thing_text(thing) for thing in LEAVES[:-1]] + [thing_text(drawn_thing(chance, 4)) for _ in range(60)]
        signs = list("()',-~nyeso0159a ") + ["\n"]
        for text in texts:
            for at in range(min(len(text), 60) + 1):
                self.check(text[:at])
                self.check(text[:at] + text[at + 1:])
                for sign in signs:
                    self.check(text[:at] + sign + text[at:])
                    self.check(text[:at] + sign + text[at + 1:])

    def test_any_signs(self):
        chance = random.Random(133)
        for _ in range(20000):
            self.check("".join(chance.choice("((()))',,-~nyes01a") for _ in range(chance.randrange(9))))


class Schedules(Reading):
    def test_written_and_read_back(self):
        chance = random.Random(134)
        self.assertEqual(schedule_text(Schedule(2, ())), "houses 2\n")
        self.assertEqual(schedule_text(both_line(1)), "houses 2\nletter 0 1 0\nletter 1 0 0\n")
        self.assertEqual(schedule_text(Schedule(8, ((7, 0, 999),))), "houses 8\nletter 7 0 999\n")
        for schedule in [turns_line(60), both_line(30), Schedule(8, ())]:
            self.assertTrue(read_schedule(schedule_text(schedule)) == schedule)
        for _ in range(100):
            schedule = random_schedule(chance, chance.randint(2, 8), chance.randint(0, 60), 30)
            text = schedule_text(schedule)
            lines = [f"letter {one} {other} {beat}\n" for one, other, beat in schedule.letters]
            self.assertEqual(text, f"houses {schedule.many}\n" + "".join(lines))
            self.assertTrue(read_schedule(text) == schedule)

    def test_lines(self):
        right = "letter 0 1 0\n"
        for text, line in [
            ("", 1), ("\n", 1), ("houses 2", 1), ("houses", 1), ("houses\n", 1), ("houses 2 3\n", 1), ("house 2\n", 1), ("2\n", 1),
            ("houses  2\n", 1), (" houses 2\n", 1), ("houses 2 \n", 1), ("Houses 2\n", 1), ("houses 02\n", 1), ("houses +2\n", 1),
            ("houses -2\n", 1), ("houses two\n", 1), ("houses 2\n\n", 2), ("houses 2\n ", 2), ("houses 2\nletter 0 1 0", 2),
            ("houses 1234567890\n", 1), ("letter 0 1 0\n", 1), ("letter 0 1 0\nhouses 2\n", 1), ("houses 2\nhouses 2\n", 2),
            ("houses 2\n" + right + "letter 0 1\n", 3), ("houses 2\nletter 0 1 0 0\n", 2), ("houses 2\nletter\n", 2),
            ("houses 2\nletter 0  1 0\n", 2), ("houses 2\nletter 0 1 0 \n", 2), ("houses 2\n" + right + "x", 3),
            ("houses 2\nletter 0 1 00\n" + right, 2), ("houses 2\nletter 0 1 1000000000\n", 2), ("houses 2\nletters 0 1 0\n", 2),
            ("houses 2\n" + right * 70 + "end", 72), ("houses x\nletter x\n", 1), ("houses 2\nletter 0 1 a\nletter", 2),
            ("houses 2\n\nletter 0 1 0\n", 2), ("houses 2\tx\n", 1), ("order 0\n", 1), ("houses 2\norder 0\n", 2),
        ]:
            self.assertEqual(self.text_fault(read_schedule, text), line, text)

    def test_then_bad_schedule(self):
        for text, part in [
            ("houses 0\n", "many"), ("houses 1\n", "many"), ("houses 9\n", "many"), ("houses 999999999\n", "many"),
            ("houses 2\nletter 0 0 0\n", 0), ("houses 2\nletter 0 1 0\nletter 0 2 0\n", 1), ("houses 2\nletter 0 1 1000\n", 0),
            ("houses 2\nletter 0 1 5\nletter 0 1 4\n", 1), ("houses 2\nletter 0 1 5\nletter 0 1 5\n", 1),
            ("houses 2\n" + "letter 0 1 0\n" * 61, "letters"), ("houses 9\nletter 0 0 999999999\n", "many"),
        ]:
            with self.assertRaises(BadSchedule) as caught:
                read_schedule(text)
            self.assertEqual(caught.exception.part, part)

    def test_no_strings(self):
        for reading in (read_schedule, read_order, read_faults):
            for thing in [*odd_things(), b"houses 2\n", ["lost\n"], 0]:
                self.assertEqual(self.text_fault(reading, thing), 1 if isinstance(thing, str) else 0)


class Orders(Reading):
    def test_written_and_read_back(self):
        self.assertEqual(order_text((0, 1)), "order 0 1\n")
        for order in [(0,), (7,), (7, 0, 3, 3), tuple(range(8)) * 5]:
            text = "order " + " ".join(str(owner) for owner in order) + "\n"
            self.assertEqual(order_text(order), text)
            self.assertEqual(read_order(text), order)

    def test_no_order(self):
        for order in [(), (8,), (0, -1), (True,), [0], (0,) * 41, None, "0", ((0,),), (None,)]:
            with self.assertRaises(NoOrder):
                order_text(order)
        for thing in odd_things():
            with self.assertRaises(NoOrder):
                order_text(thing)
            with self.assertRaises(NoOrder):
                order_text((0, thing))
        for text in ["order\n", "order 8\n", "order 0 8\n", "order" + " 0" * 41 + "\n", "order 999999999\n"]:
            with self.assertRaises(NoOrder):
                read_order(text)

    def test_lines(self):
        for text, line in [
            ("", 1), ("\n", 1), ("order 0", 1), ("order", 1), ("order \n", 1), ("order  0\n", 1), ("order 0 \n", 1), (" order 0\n", 1),
            ("order 00\n", 1), ("order 01\n", 1), ("order 0,1\n", 1), ("order -1\n", 1), ("orders 0\n", 1), ("order0\n", 1),
            ("order 0\n\n", 2), ("order 0\norder 0\n", 2), ("order 0\norder 0", 2), ("order 0\n ", 2), ("order 1000000000\n", 1),
            ("order 0\nlost\n", 2), ("order x\nx", 1), ("Order 0\n", 1), ("0 1\n", 1), ("order \u0661\n", 1),
            ("order 0\r\n", 1), ("order\t0\n", 1),
        ]:
            self.assertEqual(self.text_fault(read_order, text), line, text)


class FaultsTexts(Reading):
    def test_written_and_read_back(self):
        chance = random.Random(135)
        self.assertEqual(faults_text(Faults((), ())), "lost\n")
        self.assertEqual(faults_text(Faults((1, 59), ())), "lost 1 59\n")
        some = Faults((2,), ((0, ("a b", None)), (5, "x\ny")))
        self.assertEqual(faults_text(some), "lost 2\nturned 0 ('a b',-)\nturned 5 'x~ny'\n")
        for _ in range(200):
            numbers = chance.sample(range(60), chance.randrange(20))
            lost, turned = sorted(numbers[::2]), sorted(numbers[1::2])
            faults = Faults(tuple(lost), tuple((number, drawn_thing(chance, 4)) for number in turned))
            text = faults_text(faults)
            expected = "lost" + "".join(f" {number}" for number in lost) + "\n"
            for number, thing in faults.turned:
                expected += f"turned {number} {own_text(thing)}\n"
            self.assertEqual(text, expected)
            read = read_faults(text)
            self.assertTrue(same(read.turned, faults.turned))
            self.assertEqual(read.lost, faults.lost)

    def test_no_thing(self):
        self.assertEqual(faults_text(Faults((), ((3, nested_tuple(39)),))), "lost\nturned 3 " + "(" * 40 + ")" * 40 + "\n")
        for thing in [nested_tuple(40), nested_tuple(41, 1), nested_tuple(250)]:
            with self.assertRaises(NoThing):
                faults_text(Faults((1,), ((2, None), (3, thing))))

    def test_lines(self):
        for text, line in [
            ("", 1), ("\n", 1), ("lost", 1), ("lost \n", 1), ("lost  1\n", 1), ("lost 1 \n", 1), ("lost 01\n", 1), ("lose 1\n", 1),
            ("lost 1,2\n", 1), ("turned 0 -\n", 1), ("lost\nlost\n", 2), ("lost\nturned\n", 2), ("lost\nturned 0\n", 2),
            ("lost\nturned 0 \n", 2), ("lost\nturned 0  -\n", 2), ("lost\nturned 0 - \n", 2), ("lost\nturned  0 -\n", 2),
            ("lost\n turned 0 -\n", 2), ("lost\nturned 00 -\n", 2), ("lost\nturned 1234567890 -\n", 2), ("lost\nturned x -\n", 2),
            ("lost\nturned 0 -0\n", 2), ("lost\nturned 0 'a\n", 2), ("lost\nturned 0 " + "(" * 41 + ")" * 41 + "\n", 2),
            ("lost\nturned 0 -", 2), ("lost\nturned 0 -\nturned 1 -\nx\n", 4), ("lost\nturned 0 -\n-", 3), ("lost\nTurned 0 -\n", 2),
            ("lost\n\nturned 0 -\n", 2), ("lost 1000000000\n", 1), ("lost\nturned 0 1 2\n", 2), ("lost x\nturned\n", 1),
            ("lost\nturned 0 'a\nb'\n", 2), ("lost\nturned 0 " + "1" * 21 + "\n", 2), ("lost -\n", 1),
        ]:
            self.assertEqual(self.text_fault(read_faults, text), line, text)

    def test_then_bad_faults(self):
        for text, part in [
            ("lost 60\n", "lost"), ("lost 2 1\n", "lost"), ("lost 1 1\n", "lost"), ("lost 999999999\nturned 60 -\n", "lost"),
            ("lost\nturned 60 -\n", 0), ("lost\nturned 1 -\nturned 1 -\n", 1), ("lost\nturned 2 -\nturned 1 -\n", 1),
            ("lost 3\nturned 1 -\nturned 3 -\n", 1), ("lost\nturned 999999999 no\n", 0),
        ]:
            with self.assertRaises(BadFaults) as caught:
                read_faults(text)
            self.assertEqual(caught.exception.part, part)


class AllTexts(Reading):
    def test_each_sign_changed(self):
        """A changed text is read as what has just this text, or has a fault in the first line that is changed, or behind."""
        readings = [
            (read_schedule, schedule_text, schedule_text(Schedule(3, ((0, 1, 0), (2, 1, 10)))), BadSchedule),
            (read_order, order_text, order_text((0, 7, 1)), NoOrder),
            (read_faults, faults_text, faults_text(Faults((1, 20), ((3, ("a", -1)), (4, None)))), BadFaults),
        ]
        for reading, writing, text, error in readings:
            for at in range(len(text) + 1):
                changed = [text[:at], text[:at] + text[at + 1:]]
                for sign in "0 9a-\n":
                    changed += [text[:at] + sign + text[at:], text[:at] + sign + text[at + 1:]]
                for one in changed:
                    try:
                        self.assertEqual(writing(reading(one)), one)
                    except BadText as fault:
                        before = text[:at].count("\n") + 1
                        self.assertGreaterEqual(fault.line, before)
                        self.assertLessEqual(fault.line, one.count("\n") + 1)
                    except error:
                        pass


if __name__ == "__main__":
    unittest.main()
