"""Own accounts of what the document says, word by word and slowly, which the tests compare with."""

import itertools

from turnedtalk.schedules import Schedule


def random_schedule(chance, many, letters, beats):
    """A Schedule of so many houses and letters, if so many can be."""
    triples = [(beat, one, other) for beat in range(beats) for one in range(many) for other in range(many) if one != other]
    chosen = chance.sample(triples, min(letters, len(triples)))
    # letters of one beat stand in any order
    chosen.sort(key=lambda triple: (triple[0], chance.random()))
    return Schedule(many, tuple((one, other, beat) for beat, one, other in chosen))


def lots(letters, most):
    """All lots of at most so many letters, fewest first."""
    for size in range(most + 1):
        yield from itertools.combinations(range(letters), size)


def same(one, other):
    """Whether two things are equal, also in kind; repr tells apart all things that are not."""
    return repr(one) == repr(other)


def own_heard(schedule, ears, house, beat):
    """What the house heard ahead of the beat."""
    found = ()
    for number, (_, hearer, written) in enumerate(schedule.letters):
        if hearer == house and written < beat:
            found += ((number, ears[number]),)
    return found


def own_run(schedule, houses, manner, turner):
    """What was sent, heard, told and asked in a run, as a tuple."""
    asks = [[] for _ in houses]

    def asker(house):
        def ask(row):
            if row not in asks[house]:
                asks[house].append(row)
            return houses[house].word(row)
        return ask

    sent, ears = {}, {}
    for beat in sorted({letter[2] for letter in schedule.letters}):
        numbers = [number for number, letter in enumerate(schedule.letters) if letter[2] == beat]
        for number in numbers:
            house = schedule.letters[number][0]
            sent[number] = manner.write(house, own_heard(schedule, ears, house, beat), asker(house), number)
        for number in numbers:
            ears[number] = turner.ear(number, sent[number])
    told = tuple(manner.tell(at, own_heard(schedule, ears, at, 1000), asker(at)) for at in range(schedule.many))
    numbers = range(len(schedule.letters))
    return (
        tuple(sent[number] for number in numbers), tuple(ears[number] for number in numbers), told,
        tuple(tuple(rows) for rows in asks),
    )


def knows(schedule, barred, house, beat, other, then):
    """Whether the other house knows then what the house knows at the beat; by the last letter that told it."""
    if other == house and then >= beat:
        return True
    for number, (sender, hearer, written) in enumerate(schedule.letters):
        if number not in barred and hearer == other and written < then:
            if knows(schedule, barred, house, beat, sender, written):
                return True
    return False


def own_spread(schedule, house, beat, barred):
    """4.1: by trying each beat at which something can change."""
    tries = sorted({beat} | {letter[2] + 1 for letter in schedule.letters})
    found = []
    for other in range(schedule.many):
        known = [then for then in tries if knows(schedule, barred, house, beat, other, then)]
        found.append(known[0] if known else None)
    return tuple(found)


def own_earliest(schedule, order, index, barred):
    """4.1: word by word."""
    beat = 0
    for at in range(1, index + 1):
        beat = own_spread(schedule, order[at - 1], beat, barred)[order[at]]
        if beat is None:
            return None
    return beat



def own_keeps_back(schedule, order, goal, index, ahead, behind):
    """4.2: whether these letters keep the word of this index from the goal."""
    beat = own_earliest(schedule, order, index, ahead)
    return beat is None or own_spread(schedule, order[index], beat, ahead + behind)[goal] is None


def own_bars(schedule, order, goal, lost, turned):
    """4.2: all bars, one after the other, by going through all lots."""
    letters = range(len(schedule.letters))
    for index, owner in enumerate(order):
        if owner == goal:
            continue
        for ahead in lots(len(letters), lost + turned):
            rest = [number for number in letters if number not in ahead]
            most = max([2 * (turned - h) for h in range(turned + 1) if len(ahead) <= lost + h])
            for size in range(min(most, len(rest)) + 1):
                for behind in itertools.combinations(rest, size):
                    if own_keeps_back(schedule, order, goal, index, ahead, behind):
                        yield index, ahead, behind
