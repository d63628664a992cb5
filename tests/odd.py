"""Things of all kinds, which the tests pass where something else is due."""

import unittest

from turnedtalk.desks import Desk
from turnedtalk.disks import Disk
from turnedtalk.ears import Ear
from turnedtalk.errors import BadHouse, NoRow
from turnedtalk.faults import Faults, Hearing
from turnedtalk.houses import Table, Voice
from turnedtalk.kinds import AllAhead
from turnedtalk.liars import Liar, Routes
from turnedtalk.programs import Program
from turnedtalk.records import Hand, Record
from turnedtalk.savings import SavedEar
from turnedtalk.schedules import Schedule
from turnedtalk.votes import Votes
from turnedtalk.wholes import Whole


def nested_tuple(deep, inmost=()):
    thing = inmost
    for _ in range(deep):
        thing = (thing,)
    return thing


def nested_list(deep):
    thing = []
    for _ in range(deep):
        thing = [thing]
    return thing


def nested_pairs(deep):
    """Tuples with two items, of which the second one goes on."""
    thing = ((), "")
    for _ in range(deep):
        thing = ((), thing)
    return thing


class Foreign:
    """Nothing of the package, equal to nothing but itself."""


async def waiting():
    """What begins when it is waited for."""


def things_of_python():
    """Objects of many kinds of Python's own, none of which tells words."""
    def steps():
        yield 0

    async def async_steps():
        yield 0

    coroutine = waiting()
    found = [
        iter(thing) for thing in [[], (), "", b"", bytearray(), {}, range(2), range(2 ** 70), set(), frozenset(), {}.values(), {}.items()]
    ]
    found += [reversed(thing) for thing in [[], (), "", {}, range(2), {}.values(), {}.items()]]
    found += [{}.keys(), {}.values(), {}.items(), iter(len, 0), enumerate([]), zip(), map(len, []), filter(None, [])]
    found += [KeyboardInterrupt(), SystemExit(), GeneratorExit(), BaseException(), KeyError(), StopIteration()]
    found += [str.lower, [].__len__, [].append, len, waiting, steps, steps(), async_steps(), coroutine, Foreign.__init__]
    found += [int, type, Table, ValueError, None, ..., NotImplemented, True, 1, "a", b"a", bytearray(), memoryview(b"")]
    found += [[], (), {}, range(0), slice(0), object(), property(), staticmethod(len), classmethod(len), super(int, 1)]
    found += [waiting.__code__, type.__dict__, int.__dict__["real"], dict.__dict__["fromkeys"]]
    found += [list[int], int | str, unittest, (lambda: found).__closure__[0], Table((), "a").word, memoryview(b"").__iter__()]
    coroutine.close()
    return found


def odd_things():
    """No one of them is a word, a row, an order, a lot, a body, a number that is asked for."""
    return [
        None,
        True,
        False,
        -1,
        10 ** 20 - 1,
        -(10 ** 20 - 1),
        "\n",
        "a\n",
        "a" * 41,
        "a" * 20000,
        b"",
        b"ab",
        bytearray(b"ab"),
        range(2),
        ...,
        NotImplemented,
        int,
        len,
        slice(1),
        object(),
        Foreign(),
        ValueError("odd"),
        [],
        [()],
        ["a"],
        [0, 1],
        [[0, 1, 0]],
        [((), "a")],
        [("say", ("last",))],
        [None] * 20000,
        {},
        {"a": 1},
        {0: [1]},
        {"say": ("last",)},
        (None,),
        (True,),
        (False, True),
        (-1,),
        (10 ** 20 - 1,),
        (b"a",),
        ([],),
        ({},),
        ("a", ["b"]),
        ("a", "\n"),
        (0, 1, [0]),
        (None,) * 20000,
        nested_tuple(40),
        nested_tuple(39, 0),
        nested_tuple(39, "a"),
        nested_tuple(39, []),
        nested_list(40),
        nested_pairs(38),
        Table((), "a"),
        Voice(len),
        Program(()),
        Schedule(2, ()),
        Faults((), ()),
        Hearing(len),
        Hand(len, len),
        Record((), (), (), ()),
        Votes((0,)),
        Whole(Schedule(2, ()), (0,), 0, 0),
        AllAhead((0,), ("a", "b")),
        Ear(0, Table((), "a"), 1, 0, 0),
        Liar(len),
        Routes(Schedule(2, ()), 0),
        Disk(),
        SavedEar(1, Table((), "a"), 1, 0, 0, Disk()),
        Desk(),
        NoRow(),
        BadHouse(()),
        (Table((), "a"), Program(())),
        [Voice(len)],
        (Schedule(2, ()), Faults((), ())),
    ]
