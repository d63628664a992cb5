"""Claims: words of the other house behind rows, and the rows that a house considers."""

from turnedtalk.houses import is_row_and_word


def is_claim_thing(thing):
    """Whether it is a claim thing [6.1]."""
    if not isinstance(thing, tuple):
        return False
    for at, pair in enumerate(thing):
        if not is_row_and_word(pair):
            return False
        if at > 0 and pair[0] <= thing[at - 1][0]:
            return False
    return True


def counted_claims(heard):
    """For each row the words that heard letters claim there, each with how many of them do."""
    claims = {}
    for _, ear in heard:
        if len(ear) == 1 and is_claim_thing(ear[0]):
            for row, word in ear[0]:
                counts = claims.setdefault(row, {})
                counts[word] = counts.get(word, 0) + 1
    return claims


def considered_rows(order, house, own, told):
    """The rows that a house considers, from the empty one on.

    Own tells its own word behind a row; told tells the words that it
    heard of another house behind a row, as a list: their owner is passed
    first.
    """
    rows = [()]
    at = 0
    while at < len(rows):
        row = rows[at]
        at += 1
        if len(row) < len(order):
            owner = order[len(row)]
            words = [own(row)] if owner == house else told(owner, row)
            rows.extend([row + (word,) for word in words])
    return rows


def owned_rows(order, house, rows):
    """Those of the rows behind which the house is the owner of a word."""
    return [row for row in rows if len(row) < len(order) and order[len(row)] == house]
