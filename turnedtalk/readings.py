"""How the text of a program is read."""

from turnedtalk.basics import is_word
from turnedtalk.errors import BadText
from turnedtalk.parts import BARE, BLANKS, FORMS, UNWRITTEN, is_name
from turnedtalk.wordless import Wordless


def lacks(begun):
    """How many parts a part lacks, of which its word and the first ones are there."""
    return 1 + len(FORMS[begun[0]][1]) - len(begun)


def read_text(text, at):
    """The text part whose first quote stands at this place, as a list, and the place behind it.

    None instead of the list if there is no such part.
    """
    signs = []
    at += 1
    while text[at:at + 1] != '"':
        if text[at:at + 1] == "~":
            at += 1
            if text[at:at + 1] not in ("~", '"'):
                return None, at
        if at == len(text):
            return None, at
        signs.append(text[at])
        at += 1
    word = "".join(signs)
    return (["text", word] if is_word(word) else None), at + 1


def read_begin(text, at):
    """The beginning of the e or c that is written at this place, as a list, and the place behind it.

    An e that is written without parentheses is read whole; of what has
    them just the word and the first of them. None instead of the list if
    nothing begins so.
    """
    if text[at:at + 1] == '"':
        return read_text(text, at)
    end = at
    while text[end:end + 1].isalpha():
        end += 1
    word = text[at:end]
    if text[end:end + 1] == "(":
        opens = word in FORMS and word not in BARE and word not in UNWRITTEN
        return ([word] if opens else None), end + 1
    if word in BARE:
        return [word], end
    return (["name", word] if is_name(word) else None), end


def read_part(text, sort):
    """The e or c, as sort tells, that is written so; None if there is none.

    The parts that are open are kept in a list, for more of them may stand
    within one another than calls can.
    """
    opened = []
    at = 0
    while True:
        wanted = FORMS[opened[-1][0]][1][len(opened[-1]) - 1] if opened else sort
        begun, at = read_begin(text, at)
        if begun is None or FORMS[begun[0]][0] != wanted:
            return None
        opened.append(begun)
        while lacks(opened[-1]) == 0:
            part = tuple(opened.pop())
            if not opened:
                return part if at == len(text) else None
            opened[-1].append(part)
            sign = ")" if lacks(opened[-1]) == 0 else ", "
            if not text.startswith(sign, at):
                return None
            at += len(sign)


def read_statement(line):
    """The statement that begins on this line, without its bodies; None if there is none."""
    word, _, rest = line.partition(" ")
    if word == "say":
        parts = (read_part(rest, "e"),)
    elif word == "if":
        parts = (read_part(rest, "c"),)
    elif word == "each":
        parts = (rest if is_name(rest) else None,)
    elif word == "let":
        name, _, told = rest.partition(" ")
        parts = (name if is_name(name) else None, read_part(told, "e"))
    else:
        return None
    return None if None in parts else (word, *parts)


class Reading(Wordless):
    """What has been read of a program.

    Its heads are the statements that are open, without the bodies that
    are not closed yet; its bodies are the lists of the statements of all
    bodies that are open, the first one that of the program itself.
    """

    def __init__(self):
        self.heads = []
        self.bodies = [[]]

    def take(self, line):
        """Read one more line; whether it has a form and can stand here."""
        outer = BLANKS * (len(self.heads) - 1)
        if line == outer + "else":
            return self.take_else()
        if line == outer + "end":
            return self.take_end()
        blanks = BLANKS * len(self.heads)
        statement = read_statement(line[len(blanks):]) if line.startswith(blanks) else None
        if statement is None:
            return False
        if lacks(statement) == 0:
            self.bodies[-1].append(statement)
        else:
            self.heads.append(statement)
            self.bodies.append([])
        return True

    def take_else(self):
        """Close the first body of two, and open the second one; whether there are two."""
        if not self.heads or lacks(self.heads[-1]) != 2:
            return False
        self.heads[-1] = (*self.heads[-1], tuple(self.bodies.pop()))
        self.bodies.append([])
        return True

    def take_end(self):
        """Close the last body of a statement; whether it is open."""
        if not self.heads or lacks(self.heads[-1]) != 1:
            return False
        body = tuple(self.bodies.pop())
        self.bodies[-1].append((*self.heads.pop(), body))
        return True


def read_statements(text):
    """The statements that a text tells, however many and however deep."""
    if not isinstance(text, str):
        raise BadText(0)
    lines = text.split("\n")
    behind = lines.pop()
    reading = Reading()
    for at, line in enumerate(lines, start=1):
        if not reading.take(line):
            raise BadText(at)
    if behind != "" or reading.heads:
        raise BadText(len(lines) + 1)
    return tuple(reading.bodies[0])
