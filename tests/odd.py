"""Things of all kinds, which the tests pass where something else is due."""

from turnedtalk.errors import BadHouse, NoRow
from turnedtalk.faults import Faults, Hearing
from turnedtalk.houses import Table, Voice
from turnedtalk.programs import Program
from turnedtalk.records import Hand, Record
from turnedtalk.schedules import Schedule
from turnedtalk.votes import Votes
from turnedtalk.wholes import Whole


def nested_tuple(deep, inmost=()):
    thing = inmost
    for _ in range(deep):
        thing = (thing,)
    return thing


def nested_list(deep):
    thing = []
    for _ in range(deep):
        thing = [thing]
    return thing


def nested_pairs(deep):
    """Tuples with two items, of which the second one goes on."""
    thing = ((), "")
    for _ in range(deep):
        thing = ((), thing)
    return thing


class Foreign:
    """Nothing of the package, equal to nothing but itself."""


def odd_things():
    """No one of them is a word, a row, an order, a lot, a body, a number that is asked for."""
    return [
        None,
        True,
        False,
        -1,
        10 ** 20 - 1,
        -(10 ** 20 - 1),
        "\n",
        "a\n",
        "a" * 41,
        "a" * 20000,
        b"",
        b"ab",
        bytearray(b"ab"),
        range(2),
        ...,
        NotImplemented,
        int,
        len,
        slice(1),
        object(),
        Foreign(),
        ValueError("odd"),
        [],
        [()],
        ["a"],
        [0, 1],
        [[0, 1, 0]],
        [((), "a")],
        [("say", ("last",))],
        [None] * 20000,
        {},
        {"a": 1},
        {0: [1]},
        {"say": ("last",)},
        (None,),
        (True,),
        (False, True),
        (-1,),
        (10 ** 20 - 1,),
        (b"a",),
        ([],),
        ({},),
        ("a", ["b"]),
        ("a", "\n"),
        (0, 1, [0]),
        (None,) * 20000,
        nested_tuple(40),
        nested_tuple(39, 0),
        nested_tuple(39, "a"),
        nested_tuple(39, []),
        nested_list(40),
        nested_pairs(38),
        Table((), "a"),
        Voice(len),
        Program(()),
        Schedule(2, ()),
        Faults((), ()),
        Hearing(len),
        Hand(len, len),
        Record((), (), (), ()),
        Votes((0,)),
        Whole(Schedule(2, ()), (0,), 0, 0),
        NoRow(),
        BadHouse(()),
        (Table((), "a"), Program(())),
        [Voice(len)],
        (Schedule(2, ()), Faults((), ())),
    ]
