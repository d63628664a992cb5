"""Breaks: two worlds that one house can't tell from each other, though it should."""

from turnedtalk.bars import bar, check_goal
from turnedtalk.basics import is_tuple_of
from turnedtalk.errors import NoBar
from turnedtalk.faults import Faults
from turnedtalk.houses import Table, talk
from turnedtalk.records import carried, heard
from turnedtalk.runs import Run
from turnedtalk.schedules import BEATS_END, rounds
from turnedtalk.things import alike
from turnedtalk.walks import earliest_beats

# what any house tells where nothing else is told of it, and what the one house tells in the other world
USUAL = "a"
UNUSUAL = "b"


def are_tables(thing, many):
    """Whether it is a tuple of so many Tables."""
    return is_tuple_of(thing, many, many) and all([isinstance(house, Table) for house in thing])


def are_few_faults(thing, lost, turned):
    """Whether it is Faults of so many lost and turned letters at most."""
    return isinstance(thing, Faults) and len(thing.lost) <= lost and len(thing.turned) <= turned


def may_break(schedule, order, goal, lost, turned, thing):
    """Whether it is a break, as far as can be seen without a run."""
    if not is_tuple_of(thing, 4, 4):
        return False
    houses, others, faults, other_faults = thing
    if not are_tables(houses, schedule.many) or not are_tables(others, schedule.many):
        return False
    if not are_few_faults(faults, lost, turned) or not are_few_faults(other_faults, lost, turned):
        return False
    return houses[goal] == others[goal] and talk(houses, order) != talk(others, order)


def is_break(schedule, order, goal, lost, turned, manner, thing):
    """Whether it is a break of the manner for the goal, with so many letters lost and turned at most."""
    check_goal(schedule, order, goal, lost, turned)
    if not may_break(schedule, order, goal, lost, turned, thing):
        return False
    houses, others, faults, other_faults = thing
    record = carried(schedule, houses, manner, faults)
    other_record = carried(schedule, others, manner, other_faults)
    return alike(heard(schedule, record, goal, BEATS_END), heard(schedule, other_record, goal, BEATS_END))


def tables(schedule, order, words):
    """Tables that tell these words as the first ones of the talk, and elsewhere the usual one."""
    pairs = [[] for _ in range(schedule.many)]
    for index, word in enumerate(words):
        pairs[order[index]].append((words[:index], word))
    return tuple([Table(tuple(own), USUAL) for own in pairs])


def rows_asked(schedule, houses, manner, faults):
    """For each house the pairs of a row that it is asked and the beat at which it first is, as a list of lists."""
    run = Run(schedule, houses, manner)
    asked = [[] for _ in houses]
    for letters in rounds(schedule):
        for letter in letters:
            house, _, beat = schedule.letters[letter]
            many = len(asked[house])
            run.write(letter)
            asked[house].extend([(row, beat) for row in run.askings[house].rows[many:]])
        for letter in letters:
            run.hear_by(faults, letter)
    return asked


def asked_early(asked, house, beat):
    """The rows that the house is asked ahead of the beat, None standing for never, as the keys of a dict."""
    return {row: True for row, then in asked[house] if beat is None or then < beat}


def unasked_word(row, early):
    """A word that together with the row makes none of these rows."""
    number = 0
    while row + (str(number),) in early:
        number += 1
    return str(number)


def secret_words(schedule, order, index, manner, faults):
    """Words ahead of this index, none of which is guessed.

    A manner may ask a house behind rows of which the house can't know
    yet. What it so asks ahead of the beat from which on the house can know
    the row is the same whatever the row's last word is: this word can be
    chosen so that the row is not asked.
    """
    beats = earliest_beats(schedule, order, (*faults.lost, *[letter for letter, _ in faults.turned]))
    words = (USUAL,) * index
    at = 0
    asked = rows_asked(schedule, tables(schedule, order, words), manner, faults)
    while at < index:
        early = asked_early(asked, order[at + 1], beats[at + 1])
        at += 1
        if words[:at] in early:
            words = (*words[:at - 1], unasked_word(words[:at - 1], early), *words[at:])
            asked = rows_asked(schedule, tables(schedule, order, words), manner, faults)
    return words


def sorted_faults(lost, turned):
    """Faults of these lost letters and turned pairs."""
    return Faults(lost, tuple(sorted(turned, key=lambda pair: pair[0])))


def carried_in_both(schedule, one, other, common, behind):
    """Go through two runs at once, and tell Faults for each, by which the letters behind make no difference.

    The common Faults are in both; of the letters behind, one half is heard
    in both as it is in the other run, and the other half as in the one run.
    """
    half = (len(behind) + 1) // 2
    as_other, as_one = behind[:half], behind[half:]
    for letters in rounds(schedule):
        for run in (one, other):
            for letter in letters:
                run.write(letter)
        for letter in letters:
            held = other.sent[letter] if letter in as_other else one.sent[letter]
            other_held = one.sent[letter] if letter in as_one else other.sent[letter]
            one.hear(letter, common.ear(letter, held), common.passes(letter) and letter not in as_other)
            other.hear(letter, common.ear(letter, other_held), common.passes(letter) and letter not in as_one)
    turned = [*common.turned, *[(letter, other.sent[letter]) for letter in as_other]]
    other_turned = [*common.turned, *[(letter, one.sent[letter]) for letter in as_one]]
    return sorted_faults(common.lost, turned), sorted_faults(common.lost, other_turned)


def breaking(schedule, order, goal, lost, turned, manner):
    """A break of the manner for the goal, with so many letters lost and turned at most."""
    found = bar(schedule, order, goal, lost, turned)
    if found is None:
        raise NoBar()
    index, ahead, behind = found
    common = Faults(ahead[:lost], tuple([(letter, None) for letter in ahead[lost:]]))
    words = secret_words(schedule, order, index, manner, common)
    houses = tables(schedule, order, (*words, USUAL))
    others = tables(schedule, order, (*words, UNUSUAL))
    one = Run(schedule, houses, manner)
    other = Run(schedule, others, manner)
    faults, other_faults = carried_in_both(schedule, one, other, common, behind)
    return houses, others, faults, other_faults
