"""2.1 and what 2.2 says of Program: what programs are, and the words that they tell."""

import unittest

from tests.odd import Foreign, nested_list, nested_pairs, nested_tuple, odd_things
from turnedtalk.errors import BadProgram, NoRow
from turnedtalk.houses import Table, Voice, talk
from turnedtalk.programs import Program
from turnedtalk.schedules import Schedule

LAST = ("last",)
MANY = ("many",)
SO = ("same", LAST, LAST)
NOT_SO = ("not", SO)


def text(word):
    return ("text", word)


def name(called):
    return ("name", called)


def join(*parts):
    told = parts[0]
    for part in parts[1:]:
        told = ("join", told, part)
    return told


def word_of(statements, row=()):
    return Program(statements).word(row)


def told(e, row=()):
    return word_of((("say", e),), row)


def holds(c, row=()):
    word = word_of((("if", c, (("say", text("yes")),), (("say", text("no")),)),), row)
    return {"yes": True, "no": False}[word]


def turned(deep):
    """An e in which parts stand so deep within one another."""
    e = LAST
    for _ in range(deep - 1):
        e = ("turn", e)
    return e


class WhatAnETells(unittest.TestCase):
    def test_text(self):
        for word in ["", "a", " ", "~\"", "a" * 40]:
            self.assertEqual(told(text(word), ("b",)), word)

    def test_name(self):
        self.assertEqual(told(name("a"), ("b",)), "")
        self.assertEqual(word_of((("let", "a", text("b")), ("say", name("a")))), "b")
        self.assertEqual(word_of((("let", "a", text("b")), ("say", name("b")))), "")
        self.assertEqual(word_of((("let", "abcdefgh", text("b")), ("say", name("abcdefgh")))), "b")
        self.assertEqual(word_of((("let", "say", text("b")), ("say", name("say")))), "b")

    def test_join(self):
        self.assertEqual(told(("join", text("ab"), text("cd"))), "abcd")
        self.assertEqual(told(("join", text(""), text("cd"))), "cd")
        self.assertEqual(told(("join", LAST, LAST), ("x", "yz")), "yzyz")

    def test_turn(self):
        self.assertEqual(told(("turn", text("abc"))), "cba")
        self.assertEqual(told(("turn", text(""))), "")

    def test_rest_and_first(self):
        for word, first, rest in [("abc", "a", "bc"), ("a", "a", ""), ("", "", "")]:
            self.assertEqual(told(("first", text(word))), first)
            self.assertEqual(told(("rest", text(word))), rest)

    def test_many(self):
        for many in [0, 1, 9, 10, 99, 100, 399, 400]:
            self.assertEqual(told(MANY, ("w",) * many), str(many))

    def test_last(self):
        self.assertEqual(told(LAST), "")
        self.assertEqual(told(LAST, ("a",)), "a")
        self.assertEqual(told(LAST, ("a", "b" * 40)), "b" * 40)
        self.assertEqual(told(LAST, ("a",) * 399 + ("z",)), "z")
        self.assertEqual(told(LAST, ("a", "")), "")


class FirstFortySigns(unittest.TestCase):
    LONG = ("join", text("a" * 39 + "b"), text("c"))

    def test_of_join(self):
        self.assertEqual(told(self.LONG), "a" * 39 + "b")
        self.assertEqual(told(("join", text("a" * 40), text("b" * 40))), "a" * 40)
        self.assertEqual(told(("join", text("a" * 20), text("b" * 20))), "a" * 20 + "b" * 20)
        self.assertEqual(told(("join", text("a" * 20), text("b" * 21))), "a" * 20 + "b" * 20)

    def test_within_other_parts(self):
        self.assertEqual(told(("turn", self.LONG)), "b" + "a" * 39)
        self.assertEqual(told(("rest", self.LONG)), "a" * 38 + "b")
        self.assertEqual(told(("first", ("turn", self.LONG))), "b")
        self.assertEqual(told(("join", ("rest", self.LONG), text("xy"))), "a" * 38 + "bx")
        self.assertEqual(told(("join", ("rest", self.LONG), self.LONG)), "a" * 38 + "ba")
        self.assertEqual(told(("join", text("x"), self.LONG)), "x" + "a" * 39)

    def test_of_names(self):
        self.assertEqual(word_of((("let", "a", self.LONG), ("say", ("turn", name("a"))))), "b" + "a" * 39)

    def test_within_conditions(self):
        self.assertTrue(holds(("same", self.LONG, text("a" * 39 + "b"))))
        self.assertFalse(holds(("ahead", text("a" * 39 + "b"), self.LONG)))
        self.assertFalse(holds(("in", text("c"), self.LONG)))
        self.assertTrue(holds(("in", self.LONG, text("a" * 39 + "b"))))

    def test_of_words_of_the_row(self):
        row = ("a" * 40,)
        self.assertEqual(told(("join", LAST, text("b")), row), "a" * 40)
        self.assertEqual(word_of((("each", "w", (("say", ("join", text("b"), name("w"))),)),), row), "b" + "a" * 39)


class WhetherACIsSo(unittest.TestCase):
    WORDS = ["", "a", "b", "ab", "ba", "aa", "A", " ", "~", "10", "9", "abab"]

    def test_same_ahead_and_in(self):
        for one in self.WORDS:
            for other in self.WORDS:
                parts = (text(one), text(other))
                self.assertEqual(holds(("same", *parts)), one == other)
                self.assertEqual(holds(("ahead", *parts)), one < other)
                self.assertEqual(holds(("in", *parts)), one in other)

    def test_not(self):
        self.assertTrue(holds(SO))
        self.assertFalse(holds(NOT_SO))
        self.assertTrue(holds(("not", NOT_SO)))
        self.assertTrue(holds(("not", ("ahead", text("b"), text("a")))))
        self.assertFalse(holds(("not", ("in", text("b"), text("abc")))))


class Statements(unittest.TestCase):
    def test_nothing_is_said(self):
        for statements in [(), (("let", "a", text("b")),), (("if", SO, (), ()),), (("each", "a", ()),)]:
            for row in [(), ("x", "y"), ("x",) * 400]:
                self.assertEqual(word_of(statements, row), "")

    def test_say_ends_all(self):
        self.assertEqual(word_of((("say", text("a")), ("say", text("b")))), "a")
        self.assertEqual(word_of((("say", text("")), ("say", text("b")))), "")
        in_body = ("if", SO, (("say", text("a")), ("say", text("b"))), ())
        self.assertEqual(word_of((in_body, ("say", text("c")))), "a")
        empty = ("if", SO, (("say", text("")),), ())
        self.assertEqual(word_of((empty, ("say", text("c")))), "")

    def test_say_in_the_midst_of_each(self):
        program = (("each", "w", (("if", ("in", text("x"), name("w")), (("say", name("w")),), ()),)), ("say", MANY))
        self.assertEqual(word_of(program, ("a", "bx", "c", "xd")), "bx")
        self.assertEqual(word_of(program, ("a", "b")), "2")
        empty = (("each", "w", (("say", text("")),)), ("say", MANY))
        self.assertEqual(word_of(empty, ("a",)), "")
        self.assertEqual(word_of(empty), "0")

    def test_say_within_an_each_within_an_each(self):
        inner = ("each", "v", (("if", ("same", name("v"), LAST), (("say", join(name("w"), name("v"))),), ()),))
        program = (("each", "w", (inner,)), ("say", text("none")))
        self.assertEqual(word_of(program, ("a", "b", "c")), "ac")

    def test_let_goes_on_behind_a_body(self):
        for c, word in [(SO, "new"), (NOT_SO, "other")]:
            bodies = ((("let", "a", text("new")),), (("let", "a", text("other")),))
            program = (("let", "a", text("old")), ("if", c, *bodies), ("say", name("a")))
            self.assertEqual(word_of(program), word)

    def test_let_anew(self):
        program = (("let", "a", text("b")), ("let", "a", join(name("a"), text("c"))), ("say", name("a")))
        self.assertEqual(word_of(program), "bc")
        self.assertEqual(word_of((("let", "a", text("")), ("say", name("a")))), "")

    def test_let_means_what_the_e_told_then(self):
        program = (
            ("let", "a", text("one")), ("let", "b", name("a")), ("let", "a", text("two")),
            ("say", join(name("b"), name("a"))),
        )
        self.assertEqual(word_of(program), "onetwo")

    def test_names_are_forgotten_between_words(self):
        program = Program((("let", "a", join(name("a"), text("x"))), ("say", name("a"))))
        self.assertEqual(program.word(()), "x")
        self.assertEqual(program.word(("b",)), "x")
        self.assertEqual(program.word(()), "x")

    def test_if_does_one_body_alone(self):
        first, second = (("say", text("first")),), (("say", text("second")),)
        self.assertEqual(word_of((("if", SO, first, second),)), "first")
        self.assertEqual(word_of((("if", NOT_SO, first, second),)), "second")
        self.assertEqual(word_of((("if", SO, (), second), ("say", text("behind")))), "behind")
        self.assertEqual(word_of((("if", NOT_SO, first, ()), ("say", text("behind")))), "behind")

    def test_each_in_order(self):
        program = (("each", "w", (("let", "all", join(name("all"), name("w"))),)), ("say", name("all")))
        self.assertEqual(word_of(program, ("a", "b", "cd")), "abcd")
        self.assertEqual(word_of(program), "")
        self.assertEqual(word_of(program, ("a",) * 400), "a" * 40)

    def test_the_name_of_an_each_goes_on(self):
        program = (("let", "w", text("old")), ("each", "w", ()), ("say", name("w")))
        self.assertEqual(word_of(program, ("a", "b")), "b")
        self.assertEqual(word_of(program), "old")
        self.assertEqual(word_of(program, ("b",) * 399 + ("z",)), "z")

    def test_a_let_of_the_name_within_its_each(self):
        body = (("let", "all", join(name("all"), name("w"))), ("let", "w", join(name("w"), text("!"))))
        program = (("each", "w", body), ("say", join(name("all"), text("/"), name("w"))))
        self.assertEqual(word_of(program, ("a", "b")), "ab/b!")

    def test_a_name_of_the_last_time_is_met_in_the_next_one(self):
        body = (("let", "all", join(name("all"), name("old"))), ("let", "old", name("w")))
        program = (("each", "w", body), ("say", name("all")))
        self.assertEqual(word_of(program, ("a", "b", "c")), "ab")

    def test_an_each_within_an_each(self):
        inner = ("each", "v", (("let", "all", join(name("all"), name("w"), name("v"))),))
        program = (("each", "w", (inner,)), ("say", name("all")))
        self.assertEqual(word_of(program, ("a", "b")), "aaabbabb")
        self.assertEqual(word_of(program), "")

    def test_an_each_within_an_each_of_the_same_name(self):
        body = (("each", "w", ()), ("let", "all", join(name("all"), name("w"))))
        program = (("each", "w", body), ("say", join(name("all"), name("w"))))
        self.assertEqual(word_of(program, ("a", "b", "c")), "cccc")

    def test_an_each_behind_an_each(self):
        first = ("each", "w", (("let", "all", join(name("all"), name("w"))),))
        second = ("each", "v", (("let", "all", join(name("all"), name("v"), name("w"))),))
        self.assertEqual(word_of((first, second, ("say", name("all"))), ("a", "b")), "ababbb")

    def test_long_rows_within_one_another(self):
        inner = ("each", "v", (("let", "k", ("rest", name("k"))),))
        program = (("each", "w", (("let", "k", name("w")), inner)), ("say", join(name("w"), name("k"), MANY)))
        self.assertEqual(word_of(program, tuple(str(at) for at in range(400))), "399400")

    def test_a_talk_of_programs(self):
        counting = Program((("say", join(LAST, MANY)),))
        turning = Program((("say", ("turn", LAST)),))
        self.assertEqual(talk((counting, turning), (0, 1, 0, 1)), ("0", "0", "02", "20"))


class WordsOfPrograms(unittest.TestCase):
    def test_no_row(self):
        program = Program((("say", text("a")),))
        rows = [None, True, 0, "", "a", b"a", [], ["a"], {}, (1,), (None,), ("a" * 41,), ("\n",), ("a",) * 401, (("a",),)]
        for thing in rows:
            with self.assertRaises(NoRow):
                program.word(thing)
            with self.assertRaises(NoRow):
                Program(()).word(thing)

    def test_attribute(self):
        statements = (("let", "a", text("b")), ("say", name("a")))
        self.assertEqual(Program(statements).statements, statements)
        self.assertEqual(Program(()).statements, ())

    def test_equality(self):
        program = Program((("say", text("a")),))
        self.assertTrue(program == Program((("say", ("text", "a")),)))
        self.assertFalse(program != Program((("say", ("text", "a")),)))
        for other in [Program(()), Program((("say", text("b")),)), Program((("say", text("a")),) * 2)]:
            self.assertFalse(program == other)
            self.assertTrue(program != other)

    def test_equal_to_nothing_else(self):
        program = Program((("say", text("a")),))
        alike = Foreign()
        alike.statements = program.statements
        things = [*odd_things(), Table((), "a"), Voice(program.word), Schedule(2, ()), program.statements, alike]
        for thing in things:
            self.assertFalse(program == thing)
            self.assertFalse(thing == program)


class WhatIsNoProgram(unittest.TestCase):
    def wrong(self, *things):
        for thing in things:
            with self.assertRaises(BadProgram):
                Program(thing)

    def test_no_tuple_of_statements(self):
        self.wrong(*odd_things())
        self.wrong([], [("say", LAST)], "say", ("say", LAST), (["say", LAST],), (("say", LAST), None), ((),), (((),),))
        self.wrong((("say", LAST), Program(())), Program(()), {}, ({},), None, True, 0, b"", (0,), (True,))

    def test_wrong_words(self):
        self.wrong((("tell", LAST),), (("Say", LAST),), (("", LAST),), ((None, LAST),), ((b"say", LAST),))
        self.wrong(((["say"], LAST),), ((("say",), LAST),), (({}, LAST),), ((True, LAST),), ((0,),))
        self.wrong((LAST,), (("text", "a"),), (SO,), (("body", ()),), (("statement",),), (("say",),))

    def test_wrong_numbers_of_parts(self):
        for one in [
            ("say", LAST), ("let", "a", LAST), ("if", SO, (), ()), ("each", "a", ()), ("say", text("a")),
            ("say", name("a")), ("say", ("join", LAST, LAST)), ("say", ("turn", LAST)), ("say", ("rest", LAST)),
            ("say", ("first", LAST)), ("say", MANY), ("say", LAST), ("if", ("same", LAST, LAST), (), ()),
            ("if", ("ahead", LAST, LAST), (), ()), ("if", ("in", LAST, LAST), (), ()), ("if", ("not", SO), (), ()),
        ]:
            Program((one,))
            self.wrong((one[:-1],), ((*one, LAST),), ((*one, ()),), (list(one),), ((one,),))
            part = one[1]
            if isinstance(part, tuple):
                self.wrong(((one[0], part[:-1], *one[2:]),), ((one[0], (*part, LAST), *one[2:]),))
                self.wrong(((one[0], list(part), *one[2:]),), ((one[0], (part,), *one[2:]),))

    def test_every_place_takes_its_own_sort_alone(self):
        e_places = [
            lambda e: (("say", e),), lambda e: (("let", "a", e),), lambda e: (("say", ("join", e, LAST)),),
            lambda e: (("say", ("join", LAST, e)),), lambda e: (("say", ("turn", e)),),
            lambda e: (("say", ("rest", e)),), lambda e: (("say", ("first", e)),),
            lambda e: (("if", ("same", e, LAST), (), ()),), lambda e: (("if", ("same", LAST, e), (), ()),),
            lambda e: (("if", ("ahead", e, LAST), (), ()),), lambda e: (("if", ("ahead", LAST, e), (), ()),),
            lambda e: (("if", ("in", e, LAST), (), ()),), lambda e: (("if", ("in", LAST, e), (), ()),),
        ]
        c_places = [lambda c: (("if", c, (), ()),), lambda c: (("if", ("not", c), (), ()),)]
        body_places = [
            lambda body: (("if", SO, body, ()),), lambda body: (("if", SO, (), body),),
            lambda body: (("each", "a", body),), lambda body: body,
        ]
        sorts = [
            (e_places, [text("a"), name("a"), MANY, LAST, ("join", MANY, LAST), ("turn", MANY)]),
            (c_places, [SO, NOT_SO, ("in", LAST, MANY), ("ahead", LAST, MANY)]),
            (body_places, [(), (("say", LAST),), (("each", "b", ()), ("let", "a", LAST))]),
        ]
        for places, fitting in sorts:
            for place in places:
                for _, things in sorts:
                    for thing in things:
                        if things is fitting:
                            Program(place(thing))
                        else:
                            self.wrong(place(thing))
                self.wrong(*[place(thing) for thing in odd_things()])
                self.wrong(place(nested_tuple(38)), place(nested_list(38)), place(nested_pairs(36)), place(None))

    def test_words(self):
        for word in ["", " ", "~", "a" * 40]:
            Program((("say", text(word)),))
        for thing in [*odd_things(), "a" * 41, "\n", "\t", "\x1f", "\x7f", "\xe9", ("a",), 0, 1]:
            self.wrong((("say", text(thing)),))

    def test_names(self):
        places = [lambda n: ("let", n, LAST), lambda n: ("each", n, ()), lambda n: ("say", ("name", n))]
        for place in places:
            for called in ["a", "z", "abcdefgh", "say", "let", "if", "each", "else", "end", "text", "join", "manys"]:
                Program((place(called),))
            for called in ["", "abcdefghi", "many", "last", "A", "aB", "a1", "a b", " a", "a\n", "a_", "\xe9", "~"]:
                self.wrong((place(called),))
            for thing in odd_things():
                self.wrong((place(thing),))

    def test_twenty_deep(self):
        Program((("say", turned(19)),))
        self.wrong((("say", turned(20)),))
        c = SO
        for _ in range(17):
            c = ("not", c)
        Program((("if", c, (), ()),))
        self.wrong((("if", ("not", c), (), ()),))
        Program((("if", ("same", LAST, turned(18)), (), ()),))
        self.wrong((("if", ("same", LAST, turned(19)), (), ()),))

    def test_twenty_deep_in_bodies(self):
        for wrapped in [
            lambda body: (("if", SO, body, ()),), lambda body: (("if", SO, (), body),),
            lambda body: (("let", "a", LAST), ("if", SO, (), body), ("say", LAST)),
        ]:
            body = ()
            for _ in range(18):
                body = wrapped(body)
            Program(body)
            self.wrong(wrapped(wrapped(body)))
            self.wrong(wrapped(wrapped(wrapped(body))))
        body = (("say", LAST),)
        for _ in range(18):
            body = (("if", SO, body, ()),)
        Program(body)
        self.wrong((("if", SO, body, ()),))
        self.wrong((*body, ("if", SO, body, ())))

    def test_a_let_twenty_deep(self):
        body = (("let", "a", LAST),)
        for _ in range(18):
            body = (("if", SO, (), body),)
        Program(body)
        self.wrong((("each", "a", body),))

    def test_five_hundred_parts(self):
        Program((("say", LAST),) * 250)
        self.wrong((("say", LAST),) * 250 + (("each", "a", ()),))
        self.wrong((("say", LAST),) * 251)
        Program((("say", LAST),) * 249 + (("each", "a", ()), ("each", "a", ())))
        self.wrong((("say", LAST),) * 249 + (("each", "a", ()),) * 3)
        Program((("say", ("join", text("a"), name("b"))),) * 125)
        self.wrong((("say", ("join", text("a"), name("b"))),) * 125 + (("each", "a", ()),))
        ifs = (("if", SO, (("let", "a", MANY),), (("let", "a", MANY),)),)
        Program(ifs * 62 + (("say", LAST),) * 2)
        self.wrong(ifs * 62 + (("say", LAST),) * 2 + (("each", "a", ()),))
        nots = (("if", NOT_SO, (), ()),)
        Program(nots * 100)
        self.wrong(nots * 100 + (("each", "a", ()),))
        self.wrong((("say", LAST),) * 10000)

    def test_each_within_at_most_one_other(self):
        def each(*body):
            return ("each", "a", body)

        def both(*body):
            return ("if", SO, body, body)

        Program((each(each()),))
        Program((each(each(), each()), each(each())))
        Program((both(each(both(each(both())))),))
        self.wrong((each(each(each())),))
        self.wrong((each(), each(each(), each(each()))),)
        self.wrong((both(each(both(each(both(each())))),),))
        self.wrong((each(("if", SO, (each(("if", SO, (), (each(),))),), ())),))

    def test_wrong_ones_behind_right_ones(self):
        good = ("say", LAST)
        for at in (0, 1, 5, 9):
            for thing in [None, [good], ("say",), (), ("say", None), "say", (good,)]:
                statements = [good] * 10
                statements[at] = thing
                self.wrong(tuple(statements))

    def test_nothing_is_changed(self):
        inner = ["say", ["last"]]
        with self.assertRaises(BadProgram):
            Program((inner,))
        self.assertEqual(inner, ["say", ["last"]])


if __name__ == "__main__":
    unittest.main()
