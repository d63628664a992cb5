"""Programs: houses that tell a word by statements, and the texts of these."""

from turnedtalk.basics import MOST_SIGNS, is_row
from turnedtalk.errors import BadProgram, NoProgram, NoRow
from turnedtalk.parts import BARE, BLANKS, is_program
from turnedtalk.readings import read_statements


def told_by(e, row, means):
    """What an e tells, means being what the names mean."""
    kind = e[0]
    if kind == "text":
        return e[1]
    if kind == "name":
        return means.get(e[1], "")
    if kind == "many":
        return str(len(row))
    if kind == "last":
        return row[-1] if row else ""
    told = told_by(e[1], row, means)
    if kind == "join":
        return (told + told_by(e[2], row, means))[:MOST_SIGNS]
    if kind == "turn":
        return told[::-1]
    return told[1:] if kind == "rest" else told[:1]


def holds(c, row, means):
    """Whether a c is so."""
    if c[0] == "not":
        return not holds(c[1], row, means)
    one = told_by(c[1], row, means)
    other = told_by(c[2], row, means)
    if c[0] == "same":
        return one == other
    return one < other if c[0] == "ahead" else one in other


def said_by(body, row, means):
    """The word that a body says, None if it says none; it puts into means what names mean from now on."""
    for statement in body:
        said = said_by_one(statement, row, means)
        if said is not None:
            return said
    return None


def said_by_one(statement, row, means):
    """The word that a statement says, None if it says none."""
    kind = statement[0]
    if kind == "say":
        return told_by(statement[1], row, means)
    if kind == "let":
        means[statement[1]] = told_by(statement[2], row, means)
        return None
    if kind == "if":
        body = statement[2] if holds(statement[1], row, means) else statement[3]
        return said_by(body, row, means)
    for word in row:
        means[statement[1]] = word
        said = said_by(statement[2], row, means)
        if said is not None:
            return said
    return None


class Program:
    """A house that tells a word by statements."""

    def __init__(self, statements):
        if not is_program(statements):
            raise BadProgram()
        self.statements = statements

    def __eq__(self, other):
        return isinstance(other, Program) and self.statements == other.statements

    def word(self, row):
        """The word that it tells behind the row."""
        if not is_row(row):
            raise NoRow()
        said = said_by(self.statements, row, {})
        return "" if said is None else said


def part_text(part):
    """How an e or a c is written."""
    kind = part[0]
    if kind == "text":
        return '"' + part[1].replace("~", "~~").replace('"', '~"') + '"'
    if kind == "name":
        return part[1]
    if kind in BARE:
        return kind
    return kind + "(" + ", ".join([part_text(inner) for inner in part[1:]]) + ")"


def body_lines(body, blanks):
    """The lines of a body with these blanks ahead."""
    lines = []
    for statement in body:
        lines.extend([blanks + line for line in statement_lines(statement)])
    return lines


def statement_lines(statement):
    """The lines of a statement with no body around it."""
    kind = statement[0]
    if kind == "say":
        return ["say " + part_text(statement[1])]
    if kind == "let":
        return ["let " + statement[1] + " " + part_text(statement[2])]
    if kind == "each":
        return ["each " + statement[1], *body_lines(statement[2], BLANKS), "end"]
    first = body_lines(statement[2], BLANKS)
    second = body_lines(statement[3], BLANKS)
    return ["if " + part_text(statement[1]), *first, "else", *second, "end"]


def program_text(program):
    """The text of a Program."""
    if not isinstance(program, Program):
        raise NoProgram()
    return "".join([line + "\n" for line in body_lines(program.statements, "")])


def read_program(text):
    """The Program whose text it is."""
    return Program(read_statements(text))
