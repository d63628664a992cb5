"""1.1 and 1.2: words, rows, Tables, Voices, talks."""

import copy
import unittest

from tests.odd import Foreign, nested_tuple, odd_things
from turnedtalk.errors import BadHouse, BadTable, NoOrder, NoRow
from turnedtalk.houses import Table, Voice, asked, is_talk, talk
from turnedtalk.programs import Program
from turnedtalk.schedules import Schedule

ALL_SIGNS = "".join(chr(at) for at in range(32, 127))
P = (Table((((), "a"),), "b"), Table(((("a",), "c"),), "d"))


def rows_of(many):
    """So many rows, ascending."""
    return [(f"{at:03}",) for at in range(many)]


class Tables(unittest.TestCase):
    def part(self, pairs, other="x"):
        with self.assertRaises(BadTable) as caught:
            Table(pairs, other)
        return caught.exception.part

    def test_attributes_and_words(self):
        pairs = (((), "a"), (("a",), "b"), (("a", "b"), ""), (("b",), "d"))
        table = Table(pairs, "e")
        self.assertEqual((table.pairs, table.other), (pairs, "e"))
        for row, word in pairs:
            self.assertEqual(table.word(row), word)
        for row in [("",), ("a", "a"), ("a", "b", "c"), ("c",), ("b", "a")]:
            self.assertEqual(table.word(row), "e")

    def test_no_pairs(self):
        self.assertEqual(Table((), "").word(("q",)), "")
        self.assertEqual(Table((), "z").word(()), "z")

    def test_pairs_as_no_tuple(self):
        for thing in [[], [((), "a")], None, True, 0, "", "ab", b"ab", {}, {(): "a"}, Table((), "a"), range(0)]:
            self.assertEqual(self.part(thing), "pairs")

    def test_two_hundred_pairs_and_more(self):
        pairs = tuple((row, "w") for row in rows_of(201))
        self.assertEqual(Table(pairs[:200], "x").word(("199",)), "w")
        self.assertEqual(Table(pairs[:200], "x").word(("200",)), "x")
        self.assertEqual(self.part(pairs), "pairs")
        self.assertEqual(self.part((None,) * 201), "pairs")

    def test_a_pair_that_is_none(self):
        good = tuple((row, "w") for row in rows_of(200))
        wrong = [
            None, True, 5, "ab", [("000",), "w"], (), (("000",),), (("000",), "w", "w"), ("w", ("000",)),
            (["000"], "w"), ("000", "w"), (("000",), None), (("000",), ("w",)), (("000",), "w\n"),
            (("000",), "w" * 41), (("000", 1), "w"), (("0" * 41,), "w"), (("000",) * 401, "w"), ((None,), "w"),
            nested_tuple(40), Table((), "a"), {}, b"ab",
        ]
        for thing in wrong:
            for place in (0, 1, 100, 199):
                pairs = (*good[:place], thing, *good[place + 1:])
                self.assertEqual(self.part(pairs), place, thing)

    def test_rows_equal_or_falling(self):
        one, two, three = ((row, "w") for row in rows_of(3))
        self.assertEqual(self.part((one, one)), 1)
        self.assertEqual(self.part((one, (one[0], "v"))), 1)
        self.assertEqual(self.part((two, one)), 1)
        self.assertEqual(self.part((one, three, two)), 2)
        self.assertEqual(self.part((one, three, two, one)), 2)
        self.assertEqual(self.part(((("a",), "w"), ((), "w"))), 1)
        self.assertEqual(self.part(((("a", "a"), "w"), (("a",), "w"))), 1)
        self.assertEqual(self.part(((("a",), "w"), (("B",), "w"))), 1)
        self.assertEqual(self.part((((), "w"), ((), "w"))), 1)
        Table(((("a",), "w"), (("a", ""), "w"), (("b",), "w")), "x")

    def test_signs_of_words(self):
        for word in ["", " ", "~", "a" * 40, ALL_SIGNS[:40], ALL_SIGNS[40:80], ALL_SIGNS[80:]]:
            table = Table((((word,), word),), word)
            self.assertEqual(table.word((word,)), word)
            self.assertEqual(table.word(()), word)
        for word in ["a" * 41, "\n", "a\nb", "\t", "\r", "\x7f", "\x00", "\x1f", "\x80", "\xe9", "\u20ac", "\xa0"]:
            self.assertEqual(self.part((((word,), ""),)), 0)
            self.assertEqual(self.part((((), word),)), 0)
            self.assertEqual(self.part((), word), "other")

    def test_long_rows(self):
        row = ("a" * 40,) * 400
        self.assertEqual(Table(((row, "w"),), "x").word(row), "w")
        self.assertEqual(self.part(((row + ("",), "w"),)), 0)

    def test_other_is_no_word(self):
        for thing in [None, True, 0, b"x", ["x"], ("x",), {}, Table((), "a"), "a" * 41, nested_tuple(40)]:
            self.assertEqual(self.part((((), "a"),), thing), "other")

    def test_two_wrong_at_once(self):
        self.assertEqual(self.part([], None), "pairs")
        self.assertEqual(self.part((None,), None), 0)
        self.assertEqual(self.part((((), "a"), None, None), None), 1)
        self.assertEqual(self.part((((), "a"), ((), "a"), None)), 1)
        self.assertEqual(self.part((((), "a"), None, ((), "a"))), 1)

    def test_word_of_no_row(self):
        table = Table(((("a",), "b"),), "c")
        for thing in [None, True, 1, "", "a", b"a", ["a"], {}, ("a", 1), ("a", None), ("a" * 41,), ("\n",), table]:
            with self.assertRaises(NoRow):
                table.word(thing)
        with self.assertRaises(NoRow):
            table.word(("a",) * 401)
        self.assertEqual(table.word(("a",) * 400), "c")

    def test_equality(self):
        pairs = (((), "a"), (("a",), "b"))
        table = Table(pairs, "c")
        self.assertTrue(table == Table((((), "a"), (("a",), "b")), "c"))
        self.assertFalse(table != Table(pairs, "c"))
        for other in [Table(pairs, "d"), Table(pairs[:1], "c"), Table((((), "a"), (("a",), "x")), "c")]:
            self.assertFalse(table == other)
            self.assertTrue(table != other)

    def test_equal_to_nothing_else(self):
        table = Table((), "")
        alike = Foreign()
        alike.pairs, alike.other = (), ""
        things = [*odd_things(), Program(()), Schedule(2, ()), Voice(table.word), ((), ""), (), "", alike]
        for thing in things:
            if thing != Table((), "a"):
                self.assertFalse(table == thing)
                self.assertFalse(thing == table)
                self.assertTrue(table != thing)

    def test_what_was_passed_is_kept_and_not_changed(self):
        pairs = (((), "a"), (("a",), "b"))
        before = copy.deepcopy(pairs)
        table = Table(pairs, "c")
        table.word(("a",))
        self.assertEqual(pairs, before)
        self.assertEqual(table.pairs, before)


class Voices(unittest.TestCase):
    def test_word(self):
        voice = Voice(lambda row: "/".join(row))
        self.assertEqual(voice.word(()), "")
        self.assertEqual(voice.word(("a", "b")), "a/b")
        self.assertEqual(Voice(lambda row: row[-1]).word(("x",) * 399 + ("y",)), "y")

    def test_it_tells_what_the_function_tells_whatever_it_is(self):
        for thing in [None, 5, ("a",), "a" * 41]:
            self.assertEqual(Voice(lambda row, told=thing: told).word(()), thing)

    def test_no_row(self):
        heard = []
        voice = Voice(heard.append)
        for thing in [None, False, 0, "", "a", b"", [], ["a"], {}, (1,), ("a",) * 401, (("a",),)]:
            with self.assertRaises(NoRow):
                voice.word(thing)
        self.assertEqual(heard, [])

    def test_its_own_errors_go_on(self):
        with self.assertRaises(ZeroDivisionError):
            Voice(lambda row: 1 // 0).word(())


class Asked(unittest.TestCase):
    def test_words(self):
        self.assertEqual(asked(P[0], ()), "a")
        self.assertEqual(asked(P[0], ("a",)), "b")
        self.assertEqual(asked(Voice(lambda row: row[0]), ("q" * 40,)), "q" * 40)
        self.assertEqual(asked(Program((("say", ("many",)),)), ("q",)), "1")

    def test_any_object_with_a_word_is_a_house(self):
        class House:
            def word(self, row):
                return "h" * len(row)

        self.assertEqual(asked(House(), ("a", "b")), "hh")

    def test_no_row(self):
        class House:
            def word(self, row):
                return "w"

        for thing in [None, "a", ["a"], (1,), ("a",) * 401, ("a" * 41,)]:
            for house in [P[0], Voice(lambda row: None), House()]:
                with self.assertRaises(NoRow):
                    asked(house, thing)

    def test_no_word(self):
        for thing in [None, True, 0, b"a", ["a"], ("a",), "a" * 41, "\n", "\xe9", Table((), "a"), nested_tuple(40)]:
            for row in [(), ("a", "b"), ("a",) * 400]:
                with self.assertRaises(BadHouse) as caught:
                    asked(Voice(lambda _, told=thing: told), row)
                self.assertEqual(caught.exception.row, row)

    def test_errors_of_a_house_go_on(self):
        with self.assertRaises(KeyError):
            asked(Voice(lambda row: {}[row]), ())


class Talks(unittest.TestCase):
    def test_e01(self):
        self.assertEqual(talk(P, (0, 1, 0)), ("a", "c", "b"))
        self.assertIs(is_talk(P, (0, 1, 0), ("a", "c", "b")), True)

    def test_orders(self):
        self.assertEqual(talk(P, (0,)), ("a",))
        self.assertEqual(talk(P, (1,)), ("d",))
        self.assertEqual(talk(P, (1, 1, 0)), ("d", "d", "b"))
        self.assertEqual(talk(P[:1], (0, 0)), ("a", "b"))

    def test_one_and_forty_owners(self):
        numbers = Program((("say", ("many",)),))
        self.assertEqual(talk((numbers,), (0,)), ("0",))
        self.assertEqual(talk((numbers,), (0,) * 40), tuple(str(at) for at in range(40)))

    def test_eight_houses_of_all_kinds(self):
        houses = (
            Table((((), "t"),), "u"), Voice(lambda row: "v" * len(row)), Program((("say", ("last",)),)),
            *[Voice(lambda row, at=at: f"{at}:{row[-1]}") for at in range(3, 8)],
        )
        told = talk(houses, (0, 1, 2, 7, 3, 0))
        self.assertEqual(told, ("t", "v", "v", "7:v", "3:7:v", "u"))

    def test_each_house_is_asked_behind_the_words_ahead(self):
        rows = []

        def telling(row):
            rows.append(row)
            return "w"

        talk((Voice(telling), Table((), "o")), (0, 1, 0, 0))
        self.assertEqual(rows, [(), ("w", "o"), ("w", "o", "w")])

    def test_no_order(self):
        wrong = [
            (), (0,) * 41, (2,), (0, 1, 2), (-1,), (0, -1), (True,), (0, False), (None,), ("0",), ((0,),), [0], [0, 1],
            [], None, 0, True, "01", b"\x00", {}, {0: 1}, range(2), P, P[0], (10 ** 20 - 1,), nested_tuple(40, 0),
        ]
        for thing in wrong:
            with self.assertRaises(NoOrder):
                talk(P, thing)
            with self.assertRaises(NoOrder):
                is_talk(P, thing, ("a",))

    def test_houses_that_are_not_there(self):
        houses = (P[0],) * 8
        self.assertEqual(talk(houses, (7,)), ("a",))
        for many in range(1, 9):
            with self.assertRaises(NoOrder):
                talk(houses[:many], (many,))

    def test_no_order_ahead_of_bad_house(self):
        for owner in [2, True, "0"]:
            with self.assertRaises(NoOrder):
                talk((Voice(lambda row: None), P[1]), (0, owner))

    def test_bad_house_with_the_first_row(self):
        bad = Voice(lambda row: "w" if len(row) < 3 else None)
        for owners, row in [((0, 0, 0, 0, 0), ("w",) * 3), ((0, 1, 1, 0, 0), ("w", "d", "d")), ((1, 0, 1, 0), None)]:
            houses = (bad, Table((), "d"))
            for call in [lambda: talk(houses, owners), lambda: is_talk(houses, owners, ())]:
                with self.assertRaises(BadHouse) as caught:
                    call()
                self.assertEqual(caught.exception.row, row or ("d", "w", "d"))
        with self.assertRaises(BadHouse) as caught:
            talk((Voice(lambda row: ["w"]),), (0, 0))
        self.assertEqual(caught.exception.row, ())

    def test_a_bad_house_that_owns_no_word(self):
        self.assertEqual(talk((P[0], Voice(lambda row: None)), (0, 0)), ("a", "b"))

    def test_is_talk_of_things_nearly_the_row(self):
        order = (0, 1, 0)
        self.assertIs(is_talk(P, order, tuple(["a", "c", "b"])), True)
        wrong = [
            ["a", "c", "b"], ("a", "c"), ("a", "c", "b", "b"), ("a", "c", "b", ""), ("a", "c", "d"), ("b", "c", "b"),
            ("a", "b", "c"), (), "acb", ("acb",), ("a", "c", b"b"), ("a", ("c",), "b"), ("a", "c", None),
            (("a", "c", "b"),), {"a": 1, "c": 1, "b": 1}, ("a", "c", "b "), ("a", "c", "B"), None, True, P,
        ]
        for thing in [*wrong, *odd_things()]:
            self.assertIs(is_talk(P, order, thing), False)

    def test_no_argument_is_changed(self):
        houses = (Table((((), "a"),), "b"), Program((("say", ("last",)),)))
        order = [0, 1]
        thing = ["a", "a"]
        with self.assertRaises(NoOrder):
            talk(houses, order)
        self.assertIs(is_talk(houses, (0, 1), thing), False)
        self.assertEqual((order, thing), ([0, 1], ["a", "a"]))
        self.assertEqual(houses, (Table((((), "a"),), "b"), Program((("say", ("last",)),))))


if __name__ == "__main__":
    unittest.main()
