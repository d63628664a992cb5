"""Tellings: a word, and the route of houses by which it came [11.1]."""

from turnedtalk.basics import is_house, is_tuple_of, is_word


def is_route(thing, many, sender):
    """Whether it is a tuple of unlike ones of so many houses, the first one the sender."""
    if not isinstance(thing, tuple) or not 1 <= len(thing) <= many:
        return False
    if not all([is_house(house, many) for house in thing]):
        return False
    return thing[0] == sender and len(set(thing)) == len(thing)


def is_telling(thing, many, sender):
    """Whether it is a telling of the sender, one of so many houses."""
    return is_tuple_of(thing, 2, 2) and is_word(thing[0]) and is_route(thing[1], many, sender)


def are_tellings(thing, many, sender):
    """Whether it is a tuple of such tellings, perhaps empty."""
    return isinstance(thing, tuple) and all([is_telling(telling, many, sender) for telling in thing])


def counted_words(schedule, sender, house, heard):
    """For each route that counts for a house that heard this the word that came by it."""
    words = {}
    for letter, ear in heard:
        if ear == () or not are_tellings(ear[0], schedule.many, sender):
            continue
        writer = schedule.letters[letter][0]
        for word, route in ear[0]:
            if route[-1] == writer and house not in route and route not in words:
                words[route] = word
    return words


def sorted_tellings(words):
    """The tellings of these words by their routes, as a tuple then ascending."""
    return tuple(sorted([(word, route) for route, word in words.items()]))


def passed_on(words, house):
    """The tellings that a house writes for which these words by their routes count."""
    return sorted_tellings({(*route, house): word for route, word in words.items()})


def lots_of(houses, most):
    """All lots of at most so many of the houses, these being ascending, fewest first, in a list."""
    lots = [()]
    at = 0
    while at < len(lots):
        lot = lots[at]
        at += 1
        if len(lot) < most:
            lots.extend([(*lot, house) for house in houses if lot == () or house > lot[-1]])
    return lots


def is_met(routes, lot):
    """Whether each of the routes has a house of the lot."""
    return all([any([house in route for house in lot]) for route in routes])


def is_taken(routes, lots):
    """Whether none of the lots meets all routes."""
    for lot in lots:
        if is_met(routes, lot):
            return False
    return True


def taken_words(tellings, others, liars):
    """The words told by routes that no lot of at most so many of the other houses meets, as a tuple then ascending."""
    routes = {}
    for word, route in tellings:
        # which houses a route has matters, not their order; so there are few unlike ones
        routes.setdefault(word, {})[tuple(sorted(route))] = True
    lots = lots_of(others, liars)
    return tuple([told for told in sorted(routes) if is_taken(list(routes[told]), lots)])
