"""What programs are made of.

A PART is a statement, an e or a c [2.1]; a body is a tuple of statements.
"""

from turnedtalk.basics import is_word

MOST_DEEP = 20
MOST_PARTS = 500
MOST_EACHES = 2
MOST_NAME = 8

# for the first word of each part what it is, and what it is made of
FORMS = {
    "say": ("statement", ("e",)),
    "let": ("statement", ("name", "e")),
    "if": ("statement", ("c", "body", "body")),
    "each": ("statement", ("name", "body")),
    "text": ("e", ("word",)),
    "name": ("e", ("name",)),
    "join": ("e", ("e", "e")),
    "turn": ("e", ("e",)),
    "rest": ("e", ("e",)),
    "first": ("e", ("e",)),
    "many": ("e", ()),
    "last": ("e", ()),
    "same": ("c", ("e", "e")),
    "ahead": ("c", ("e", "e")),
    "in": ("c", ("e", "e")),
    "not": ("c", ("c",)),
}
# these words alone are an e, so no name is called so
BARE = ("many", "last")
# these words are not written: their parts stand for themselves
UNWRITTEN = ("text", "name")
BLANKS = "  "


def has_letters(thing):
    """Whether it is a string of so many letters as a name has, all of them small."""
    if not isinstance(thing, str) or not 1 <= len(thing) <= MOST_NAME:
        return False
    return thing.isascii() and thing.isalpha() and thing.islower()


def is_name(thing):
    """Whether it is a name."""
    return has_letters(thing) and thing not in BARE


def has_form(thing, sort):
    """Whether it begins as a part of this sort, and has as many items, whatever these are."""
    if not isinstance(thing, tuple) or len(thing) == 0 or not isinstance(thing[0], str):
        return False
    if thing[0] not in FORMS:
        return False
    told, parts = FORMS[thing[0]]
    return told == sort and len(thing) == 1 + len(parts)


def is_right(sort, thing, around, eaches):
    """Whether it is of this sort, whatever stands within it, with so many parts and eaches around it."""
    if sort == "body":
        return isinstance(thing, tuple)
    if sort == "name":
        return is_name(thing)
    if sort == "word":
        return is_word(thing)
    if not has_form(thing, sort) or around >= MOST_DEEP:
        return False
    return thing[0] != "each" or eaches < MOST_EACHES


def inner_ones(sort, thing, around, eaches):
    """What a right one holds, each with its sort and with how many parts and eaches are around it."""
    if sort == "body":
        return [("statement", statement, around, eaches) for statement in thing]
    if sort in ("name", "word"):
        return []
    sorts = FORMS[thing[0]][1]
    within = eaches + 1 if thing[0] == "each" else eaches
    return [(sorts[at], thing[at + 1], around + 1, within) for at in range(len(sorts))]


def is_program(thing):
    """Whether it is a tuple of statements, few enough and not too deep.

    What is still to be looked at is kept in a list, for what was read may
    be nested deeper than calls can.
    """
    waiting = [("body", thing, 0, 0)]
    many = 0
    while waiting:
        sort, one, around, eaches = waiting.pop()
        if not is_right(sort, one, around, eaches):
            return False
        if sort in ("statement", "e", "c"):
            many += 1
        waiting.extend(inner_ones(sort, one, around, eaches))
    return many <= MOST_PARTS
