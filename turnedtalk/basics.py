"""What is passed about: integers, tuples, words, rows, orders, lots.

Each function here judges any object, whatever it is.
"""

MOST_SIGNS = 40
MOST_WORDS = 400
MOST_OWNERS = 40


def is_integer(thing):
    """Whether it is an integer; a flag is none."""
    return isinstance(thing, int) and not isinstance(thing, bool)


def is_number(thing):
    """Whether it is a number: an integer from 0 on."""
    return is_integer(thing) and thing >= 0


def is_from_to(thing, least, most):
    """Whether it is an integer from least to most."""
    return is_integer(thing) and least <= thing <= most


def is_tuple_of(thing, least, most):
    """Whether it is a tuple of at least and at most so many, whatever they are."""
    return isinstance(thing, tuple) and least <= len(thing) <= most


def is_word(thing):
    """Whether it is a word [1.1]."""
    # of ASCII just the signs from the blank to the tilde are printable
    return isinstance(thing, str) and len(thing) <= MOST_SIGNS and thing.isascii() and thing.isprintable()


def is_row(thing):
    """Whether it is a row [1.1]."""
    return is_tuple_of(thing, 0, MOST_WORDS) and all([is_word(word) for word in thing])


def is_house(thing, many):
    """Whether it is the number of one of so many houses."""
    return is_from_to(thing, 0, many - 1)


def is_order(thing, many):
    """Whether it is an order of so many houses [1.2]."""
    return is_tuple_of(thing, 1, MOST_OWNERS) and all([is_house(owner, many) for owner in thing])


def is_lot(thing, many):
    """Whether it is a lot [0.2] of numbers below this one."""
    if not isinstance(thing, tuple):
        return False
    least = 0
    for number in thing:
        if not is_from_to(number, least, many - 1):
            return False
        least = number + 1
    return True
