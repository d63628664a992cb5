"""2.2: program_text and read_program."""

import itertools
import random
import unittest

from tests.odd import odd_things
from turnedtalk.errors import BadProgram, BadText, NoProgram, TalkError
from turnedtalk.programs import Program, program_text, read_program

LAST = ("last",)
MANY = ("many",)
SO = ("same", LAST, LAST)

LONG_PROGRAM = (
    ("let", "a", ("text", "")),
    ("each", "w", (
        ("if", ("not", ("in", ("name", "w"), ("name", "a"))), (
            ("let", "a", ("join", ("name", "a"), ("first", ("name", "w")))),
            ("each", "vv", (("let", "b", ("turn", ("name", "vv"))),)),
        ), (
            ("if", ("ahead", ("text", "~\"~~ \""), MANY), (), (("say", ("rest", LAST)),)),
        )),
    )),
    ("if", ("same", LAST, ("text", ", ")), (("say", ("name", "join")),), ()),
    ("say", ("name", "abcdefgh")),
)
LONG_TEXT = """\
let a ""
each w
  if not(in(w, a))
    let a join(a, first(w))
    each vv
      let b turn(vv)
    end
  else
    if ahead("~~~"~~~~ ~"", many)
    else
      say rest(last)
    end
  end
end
if same(last, ", ")
  say join
else
end
say abcdefgh
"""


def line_of(text):
    """The line that BadText tells, None if the text is one of a program or of too great a one."""
    try:
        read_program(text)
    except BadText as error:
        return error.line
    except BadProgram:
        return None
    return None


class Texts(unittest.TestCase):
    def test_e10(self):
        self.assertEqual(program_text(Program((("say", ("last",)),))), "say last\n")

    def test_of_each_e(self):
        for e, told in [
            (("text", ""), '""'), (("text", "a b"), '"a b"'), (("text", '"'), '"~""'), (("text", "~"), '"~~"'),
            (("text", '~"'), '"~~~""'), (("text", '"~'), '"~"~~"'), (("text", "(),"), '"(),"'),
            (("name", "a"), "a"), (("name", "text"), "text"), (("name", "abcdefgh"), "abcdefgh"),
            (("join", MANY, LAST), "join(many, last)"), (("turn", LAST), "turn(last)"), (("rest", LAST), "rest(last)"),
            (("first", ("name", "first")), "first(first)"), (MANY, "many"), (LAST, "last"),
            (("join", ("join", MANY, ("text", "a")), ("turn", ("name", "b"))), 'join(join(many, "a"), turn(b))'),
        ]:
            self.both(((("say", e),), f"say {told}\n"), ((("let", "x", e),), f"let x {told}\n"))

    def test_of_each_c(self):
        for c, told in [
            (SO, "same(last, last)"), (("ahead", MANY, LAST), "ahead(many, last)"),
            (("in", ("text", "a"), LAST), 'in("a", last)'), (("not", SO), "not(same(last, last))"),
            (("not", ("not", ("in", LAST, ("name", "not")))), "not(not(in(last, not)))"),
        ]:
            self.both(((("if", c, (), ()),), f"if {told}\nelse\nend\n"))

    def test_of_bodies(self):
        say = ("say", LAST)
        self.both(
            ((), ""), ((say, say), "say last\nsay last\n"),
            ((("each", "a", ()),), "each a\nend\n"), ((("each", "a", (say,)), say), "each a\n  say last\nend\nsay last\n"),
            ((("if", SO, (say,), ()),), "if same(last, last)\n  say last\nelse\nend\n"),
            ((("if", SO, (), (say,)),), "if same(last, last)\nelse\n  say last\nend\n"),
            ((("each", "end", (("each", "else", (say,)),)),), "each end\n  each else\n    say last\n  end\nend\n"),
            (LONG_PROGRAM, LONG_TEXT),
        )

    def both(self, *pairs):
        for statements, text in pairs:
            self.assertEqual(program_text(Program(statements)), text)
            self.assertEqual(read_program(text), Program(statements))
            self.assertEqual(read_program(text).statements, statements)

    def test_no_program(self):
        for thing in [*odd_things(), (), (("say", LAST),), "say last\n", LONG_TEXT]:
            if not isinstance(thing, Program):
                with self.assertRaises(NoProgram):
                    program_text(thing)


def random_e(chance, deep):
    kind = chance.choice(["text", "name", "many", "last", "join", "turn", "rest", "first"])
    if deep == 0 or kind in ("many", "last"):
        return (chance.choice(["many", "last"]),)
    if kind == "text":
        return (kind, "".join(chance.choice('~"ab, ()') for _ in range(chance.randrange(5))))
    if kind == "name":
        return (kind, chance.choice(["a", "b", "man", "lasts", "say", "join", "abcdefgh"]))
    return (kind, *[random_e(chance, deep - 1) for _ in range(2 if kind == "join" else 1)])


def random_c(chance, deep):
    kind = chance.choice(["same", "ahead", "in", "not"])
    if deep > 1 and kind == "not":
        return (kind, random_c(chance, deep - 1))
    return (chance.choice(["same", "ahead", "in"]), random_e(chance, deep - 1), random_e(chance, deep - 1))


def random_body(chance, deep, eaches):
    body = []
    for _ in range(chance.randrange(4)):
        kind = chance.choice(["say", "let", "if", "each"])
        if kind == "if" and deep > 2:
            bodies = [random_body(chance, deep - 1, eaches) for _ in range(2)]
            body.append((kind, random_c(chance, deep - 1), *bodies))
        elif kind == "each" and deep > 2 and eaches > 0:
            body.append((kind, "w", random_body(chance, deep - 1, eaches - 1)))
        elif kind == "let":
            body.append((kind, chance.choice(["a", "b"]), random_e(chance, deep - 1)))
        else:
            body.append(("say", random_e(chance, deep - 1)))
    return tuple(body)


class ReadBack(unittest.TestCase):
    def test_many_programs(self):
        chance = random.Random(3)
        texts = {}
        for _ in range(2000):
            statements = random_body(chance, 5, 2)
            program = Program(statements)
            text = program_text(program)
            self.assertEqual(read_program(text).statements, statements)
            self.assertEqual(texts.setdefault(text, program), program)
        self.assertGreater(len(texts), 1000)

    def test_great_programs(self):
        word = '~"' * 20
        body = (("say", ("join", ("text", word), ("text", word))),) * 100
        for _ in range(15):
            body = (("if", SO, (), body),)
        text = program_text(Program(body))
        self.assertGreater(len(text), 20000)
        self.assertEqual(read_program(text).statements, body)

    def test_what_is_read_is_the_text_of_what_it_is_read_as(self):
        signs = 'a(),"~ \nE'
        texts = [LONG_TEXT, 'let a join("x~~", many)\nif not(in(a, last))\n  say "~""\nelse\nend\n']
        for text in texts:
            for at in range(len(text) + 1):
                for sign in ["", *signs]:
                    self.judge(text, at, text[:at] + sign + text[at + 1:])
                    self.judge(text, at, text[:at] + sign + text[at:])

    def judge(self, text, at, changed):
        """A text is changed at this place: what was closed ahead of its line is right as before."""
        try:
            self.assertEqual(program_text(read_program(changed)), changed)
        except BadText as error:
            self.assertGreaterEqual(error.line, 1 + text[:at].count("\n"))
            self.assertLessEqual(error.line, 1 + changed.count("\n"))
            ahead = "".join(line + "\n" for line in changed.split("\n")[:error.line - 1])
            self.assertIn(line_of(ahead), (None, error.line))

    def test_short_texts(self):
        pieces = ["say last", "each a", "end", "else", "if in(a, a)", "  ", "\n", " "]
        read = 0
        for many in range(5):
            for parts in itertools.product(pieces, repeat=many):
                text = "".join(parts)
                try:
                    self.assertEqual(program_text(read_program(text)), text)
                    read += 1
                except BadText:
                    pass
        # the empty text, one or two says, an each without a body, and the names lastend and lastelse
        self.assertEqual(read, 6)


class FaultsOfTexts(unittest.TestCase):
    def test_no_string(self):
        for thing in odd_things():
            if not isinstance(thing, str):
                self.assertEqual(line_of(thing), 0, thing)
        self.assertEqual(line_of(["say last\n"]), 0)
        self.assertEqual(line_of(b"say last\n"), 0)
        self.assertEqual(line_of(Program(())), 0)

    def test_the_empty_text(self):
        self.assertEqual(read_program(""), Program(()))

    def test_no_line_has_such_a_form(self):
        for line in [
            "", " ", "say", "say ", "say  last", " say last", "say last ", "saylast", "Say last", "tell last", "last",
            "say last last", "say last,", "say \"a", "say a\"", "say \"\"\"", "say \"a\"b", "say 'a'", "say 5",
            "say abcdefghi", "say A", "say a1", "say aB", "say a_b", "say \xe9", "say \"\xe9\"", "say \"\t\"", "say -",
            "say many()", "say last()", "say text(\"a\")", "say name(a)", "say join()", "say join(a)",
            "say join(a,b)", "say join(a,  b)", "say join(a ,b)", "say join( a, b)", "say join(a, b )",
            "say join(a, b", "say join(a, b))", "say join(a, b, c)", "say join (a, b)", "say join(a; b)",
            "say joins(a, b)", "say turn()", "say turn(a, b)", "say turn(a", "say turn a)", "say (a)", "say ()",
            "say same(a, b)", "say not(a)", "say in(a, b)", "say ahead(a, b)", "say say(a)", "say turn(same(a, b))",
            "let", "let a", "let a ", "let  a last", "let a  last", "let many last", "let last last", "let A last",
            "let abcdefghi last", "let \"a\" last", "let a same(a, b)", "let a last ", "let a, last", "let a=last",
            "say turn(turn(a)", "say first(,)", "say rest(\"a)", "say \"a\", last", "say join(, )", "say join(a, )",
        ]:
            self.lines_told(line)
        self.lines_told("say join", True)

    def lines_told(self, line, is_right=False):
        """The line as the first one, in the midst and as the last one."""
        for ahead, behind in itertools.product([0, 1, 3], repeat=2):
            text = "say last\n" * ahead + line + "\n" + "let a many\n" * behind
            self.assertEqual(line_of(text), None if is_right else ahead + 1, text)

    def test_no_head_of_bodies_has_such_a_form(self):
        for line in [
            "if", "if ", "if last", "if a", "if \"a\"", "if same", "if same(a)", "if same(a, b, c)", "if same(a,b)",
            "if same(a, b) ", "if same(a, b", "if same(a, b))", "if not(a)", "if not()", "if not(same(a, b)",
            "if not(same(a, b), same(a, b))", "if join(a, b)", "if in(same(a, b), a)", "if  same(a, b)", "ifsame(a, b)",
            "If same(a, b)", "if same (a, b)", "if (same(a, b))", "if turn(a)", "if not not(same(a, b))", "if c(a, b)",
        ]:
            text = f"say last\n{line}\n  say a\nelse\nend\n"
            self.assertEqual(line_of(text), 2, text)
        for line in ["each", "each ", "each many", "each last", "each abcdefghi", "each A", "each a b", "each  a",
                     "each \"a\"", "eacha", "each a ", "each a1", "each a,"]:
            text = f"say last\n{line}\n  say a\nend\n"
            self.assertEqual(line_of(text), 2, text)

    def test_words_of_forty_signs(self):
        for word in ["a" * 40, " " * 40, "(" * 40]:
            self.assertEqual(read_program(f'say "{word}"\n').statements, (("say", ("text", word)),))
            self.lines_told(f'say "{word} "')
        self.assertEqual(read_program('say "' + "~~" * 40 + '"\n').statements, (("say", ("text", "~" * 40)),))
        self.assertEqual(read_program('say "' + '~"' * 40 + '"\n').statements, (("say", ("text", '"' * 40)),))
        self.lines_told('say "' + "~~" * 41 + '"')
        self.lines_told('say "' + '~"' * 40 + 'a"')

    def test_a_tilde_ahead_of_another_sign(self):
        for inner in ["~a", "~ ", "a~", "~~~", "~~~a", "~~~~~", "~n", "~(", "a~b", "~'"]:
            self.lines_told(f'say "{inner}"')
            self.lines_told(f'say "{inner}')
        self.lines_told('say "a~')
        self.lines_told("say ~")
        self.lines_told("say a~")
        self.lines_told("~say a")

    def test_names_of_eight_letters(self):
        for form in ["say {}", "let {} last", "say turn({})"]:
            self.lines_told(form.format("abcdefgh"), True)
            self.lines_told(form.format("abcdefghi"))
        for form in ["each {}\nend\n", "if in({}, a)\nelse\nend\n"]:
            self.assertIsNone(line_of(form.format("abcdefgh")))
            self.assertEqual(line_of(form.format("abcdefghi")), 1)

    def test_many_and_last_are_no_names(self):
        self.lines_told("let many a")
        self.lines_told("let last a")
        self.assertEqual(line_of("each many\nend\n"), 1)
        self.assertEqual(line_of("each last\nend\n"), 1)
        self.assertEqual(read_program("say many\n").statements, (("say", MANY),))

    def test_the_last_line_without_its_line_feed(self):
        self.assertEqual(line_of("say last"), 1)
        self.assertEqual(line_of("say last\nsay last"), 2)
        self.assertEqual(line_of("each a\nend"), 2)
        self.assertEqual(line_of("say last\n "), 2)
        self.assertEqual(line_of("say last\nsay"), 2)
        self.assertEqual(line_of("say\nsay last"), 1)
        self.assertEqual(line_of("a"), 1)

    def test_empty_lines(self):
        self.assertEqual(line_of("\n"), 1)
        self.assertEqual(line_of("\n\n"), 1)
        self.assertEqual(line_of("say last\n\n"), 2)
        self.assertEqual(line_of("say last\n\nsay last\n"), 2)
        self.assertEqual(line_of("each a\n\nend\n"), 2)
        self.assertEqual(line_of("each a\n  \nend\n"), 2)

    def test_other_ends_of_lines(self):
        for sign in "\r\t\x0b\x0c\x1c\x85\u2028":
            self.assertEqual(line_of("say last\nsay last" + sign + "\nsay last\n"), 2)
            self.assertEqual(line_of("say last\nsay last" + sign + "say last\n"), 2)
            self.assertEqual(line_of("say last\nsay last\n" + sign), 3)

    def test_wrong_blanks_ahead(self):
        for blanks in ["", " ", "   ", "    "]:
            self.assertEqual(line_of(f"each a\n{blanks}say last\nend\n"), 2)
            self.assertEqual(line_of(f"each a\n  say last\n{blanks}say last\nend\n"), 3)
            self.assertEqual(line_of(f"if in(a, a)\nelse\n{blanks}let a last\nend\n"), 3)
            self.assertEqual(line_of(f"each a\n{blanks}each b\n  end\nend\n"), 2)
        for blanks in [" ", "  ", "   "]:
            self.assertEqual(line_of(f"{blanks}say last\n"), 1)
            self.assertEqual(line_of(f"say last\n{blanks}say last\n"), 2)
            self.assertEqual(line_of(f"each a\n{blanks}end\n"), 2)
            self.assertEqual(line_of(f"each a\nend\n{blanks}say last\n"), 3)
            self.assertEqual(line_of(f"if in(a, a)\n{blanks}else\nend\n"), 2)
            self.assertEqual(line_of(f"if in(a, a)\nelse\n{blanks}end\n"), 3)
        for blanks in ["", " ", "   ", "    "]:
            self.assertEqual(line_of(f"each a\n  each b\n{blanks}end\nend\n"), 3)
            self.assertEqual(line_of(f"each a\n  if in(a, a)\n{blanks}else\n  end\nend\n"), 3)

    def test_end_and_else_too_many(self):
        self.assertEqual(line_of("end\n"), 1)
        self.assertEqual(line_of("else\n"), 1)
        self.assertEqual(line_of("say last\nend\n"), 2)
        self.assertEqual(line_of("say last\nelse\n"), 2)
        self.assertEqual(line_of("each a\nend\nend\n"), 3)
        self.assertEqual(line_of("each a\nelse\nend\n"), 2)
        self.assertEqual(line_of("each a\n  say last\nelse\nend\n"), 3)
        self.assertEqual(line_of("if in(a, a)\nelse\nelse\nend\n"), 3)
        self.assertEqual(line_of("if in(a, a)\nelse\nend\nend\n"), 4)
        self.assertEqual(line_of("if in(a, a)\nelse\nend\nelse\n"), 4)
        self.assertEqual(line_of("each a\nend a\n"), 2)
        self.assertEqual(line_of("each a\nend \n"), 2)
        self.assertEqual(line_of("if in(a, a)\nelse \nend\n"), 2)

    def test_end_and_else_that_lack(self):
        self.assertEqual(line_of("each a\n"), 2)
        self.assertEqual(line_of("each a\n  say last\n"), 3)
        self.assertEqual(line_of("each a\n  each b\n  end\n"), 4)
        self.assertEqual(line_of("each a\n  each b\nend\n"), 3)
        self.assertEqual(line_of("if in(a, a)\n"), 2)
        self.assertEqual(line_of("if in(a, a)\nelse\n"), 3)
        self.assertEqual(line_of("if in(a, a)\nend\n"), 2)
        self.assertEqual(line_of("if in(a, a)\n  say last\nend\n"), 3)
        self.assertEqual(line_of("each a\nsay last\nend\n"), 2)
        self.assertEqual(line_of("each a\n  say last"), 2)

    def test_the_first_of_several_faults(self):
        self.assertEqual(line_of("say last\nsay\nend\nfoo"), 2)
        self.assertEqual(line_of("each a\n  say last\n  foo\n"), 3)
        self.assertEqual(line_of("foo\nbar\n"), 1)


def turned(deep):
    return "say " + "turn(" * (deep - 2) + "last" + ")" * (deep - 2) + "\n"


class TooGreatTexts(unittest.TestCase):
    def too_great(self, text):
        with self.assertRaises(BadProgram):
            read_program(text)

    def test_too_deep(self):
        self.assertEqual(program_text(read_program(turned(20))), turned(20))
        self.too_great(turned(21))
        self.too_great(turned(100))
        for deep, is_right in [(18, True), (19, False), (60, False)]:
            lines = ["  " * at + "if in(a, a)\n" for at in range(deep)]
            lines += ["  " * at + "else\n" + "  " * at + "end\n" for at in reversed(range(deep))]
            if is_right:
                self.assertEqual(program_text(read_program("".join(lines))), "".join(lines))
        self.too_great("".join(lines))

    def test_too_many(self):
        self.assertEqual(len(read_program("say last\n" * 250).statements), 250)
        self.too_great("say last\n" * 250 + "each a\nend\n")
        self.too_great("say last\n" * 2200)

    def test_an_each_within_two_others(self):
        self.assertIsInstance(read_program("each a\n  each b\n  end\nend\n"), Program)
        self.too_great("each a\n  each b\n    each c\n    end\n  end\nend\n")

    def test_bad_text_ahead_of_bad_program(self):
        self.assertEqual(line_of(turned(21) + "say\n"), 2)
        self.assertEqual(line_of("each a\n  each b\n    each c\n    end\n  end\nend\nend\n"), 7)
        self.assertEqual(line_of("say last\n" * 300 + "say last"), 301)
        self.assertEqual(line_of("each a\n  each b\n    each c\n"), 4)

    def test_very_many_parentheses(self):
        for many in [300, 3300, 50000]:
            self.too_great(turned(many))
            self.too_great("say " + "join(a, " * many + "a" + ")" * many + "\n")
            self.too_great("say " + "join(" * many + "a" + ", a)" * many + "\n")
            self.too_great("if " + "not(" * many + "in(a, a)" + ")" * many + "\nelse\nend\n")
            for line in [
                "say " + "turn(" * many, "say " + "turn(" * many + "last" + ")" * (many - 1),
                "say " + "turn(" * many + "last" + ")" * (many + 1), "say " + "(" * many, "say " + ")" * many,
                "say " + "join(" * many + "a" + ", a)" * (many - 1) + ")", "if " + "not(" * many,
                "if " + "not(" * many + "a" + ")" * many, "say " + "turn(" * many + ")" * many,
                "say " + "(" * many + "last" + ")" * many, "each " + "turn(" * many, "say " + '"' * many + "a",
            ]:
                self.assertEqual(line_of("say last\n" + line + "\n"), 2)
                self.assertEqual(line_of(line), 1)

    def test_very_many_bodies(self):
        many = 1500
        lines = ["  " * at + "each a\n" for at in range(many)]
        self.assertEqual(line_of("".join(lines)), many + 1)
        self.too_great("".join(lines) + "".join("  " * at + "end\n" for at in reversed(range(many))))

    def test_only_errors_of_the_package(self):
        for text in ["say " * 5000, '"' * 20000, "~" * 20000, "\n" * 20000, "(" * 20000, "a" * 20000, "if " * 6000]:
            with self.assertRaises(TalkError):
                read_program(text)


if __name__ == "__main__":
    unittest.main()
