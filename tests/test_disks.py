"""12.1: Disks, and the lines by which things are noted."""

import random
import unittest

from tests.odd import nested_tuple, odd_things
from tests.own import same
from tests.own_states import is_own_thing
from turnedtalk.disks import Disk, read_line, record_line
from turnedtalk.errors import NoCut, NoLine, NoNumber, NoThing
from turnedtalk.texts import thing_text

NO_LINES = ["\n", "a\n", "\na", "a\nb", "\t", "a\r", "\x7f", "\x1f", "\xe9", "\u20ac", None, 0, True, b"a", ["a"], ("a",), {}]
SOME = ["", " ", "a", "~", "a b", "x" * 20000, "|\"'~", "- 45"]


class OwnDisk:
    """12.1: for each line whether it waits."""

    def __init__(self):
        self.told = []

    def write(self, line):
        self.told.append((line, True))

    def sync(self):
        self.told = [(line, False) for line, _ in self.told]

    def waiting(self):
        return [line for line, waits in self.told if waits]

    def cut(self, kept):
        left = list(kept)
        self.told = [(line[:left.pop(0)] if waits else line, False) for line, waits in self.told]

    def drop(self, number):
        self.told = self.told[:number]


class Disks(unittest.TestCase):
    def check(self, disk, own):
        self.assertEqual(disk.lines(), [line for line, _ in own.told])
        self.assertEqual(disk.synced(), len(own.told) - len(own.waiting()))

    def no_change(self, disk, error, call):
        before = (disk.lines(), disk.synced())
        with self.assertRaises(error):
            call()
        self.assertEqual((disk.lines(), disk.synced()), before)

    def step(self, chance, disk, own):
        what = chance.choice(["write", "write", "write", "sync", "cut", "drop"])
        if what == "write":
            line = chance.choice(SOME)
            self.assertIsNone(disk.write(line))
            own.write(line)
        elif what == "sync":
            self.assertIsNone(disk.sync())
            own.sync()
        elif what == "cut":
            kept = tuple(chance.choice([0, len(line), chance.randint(0, len(line))]) for line in own.waiting())
            self.assertIsNone(disk.cut(kept))
            own.cut(kept)
        else:
            number = chance.choice([0, len(own.told), chance.randint(0, len(own.told))])
            self.assertIsNone(disk.drop(number))
            own.drop(number)

    def test_by_an_own_account(self):
        for seed in range(300):
            chance = random.Random(seed)
            pairs = [(Disk(), OwnDisk())]
            for _ in range(25):
                disk, own = chance.choice(pairs)
                self.step(chance, disk, own)
                if chance.random() < 0.15:
                    other = OwnDisk()
                    other.told = list(own.told)
                    pairs.append((disk.copy(), other))
                for disk, own in pairs:
                    self.check(disk, own)

    def test_a_new_one(self):
        disk = Disk()
        self.assertEqual((disk.lines(), disk.synced()), ([], 0))
        disk.cut(())
        disk.drop(0)
        disk.sync()
        self.assertEqual((disk.lines(), disk.synced()), ([], 0))
        self.assertIsInstance(disk.copy(), Disk)
        self.assertFalse(disk == [] or disk == Disk().lines())

    def test_lines_are_a_new_list(self):
        disk = Disk()
        disk.write("a")
        lines = disk.lines()
        lines.append("b")
        lines[0] = "c"
        self.assertEqual(disk.lines(), ["a"])
        disk.write("d")
        self.assertEqual(lines, ["c", "b"])

    def test_no_line(self):
        disk = Disk()
        disk.write("a")
        for line in NO_LINES + [thing for thing in odd_things() if not isinstance(thing, str)]:
            self.no_change(disk, NoLine, lambda: disk.write(line))

    def test_no_cut(self):
        disk = Disk()
        for line in ["x", "abc", ""]:
            disk.write(line)
        disk.drop(3)
        for kept in [
            (), (1,), (1, 3), (1, 3, 0, 0), (2, 3, 0), (1, 4, 0), (1, 3, 1), (-1, 3, 0), (1, -1, 0), (True, 3, 0), (1, 3, False),
            [1, 3, 0], None, 3, "130", (1, None, 0), (1, "3", 0), (1, (3,), 0), {0: 1}, (10 ** 20 - 1, 0, 0),
        ]:
            self.no_change(disk, NoCut, lambda: disk.cut(kept))
        for thing in odd_things():
            self.no_change(disk, NoCut, lambda: disk.cut(thing))
            self.no_change(disk, NoCut, lambda: disk.cut((thing, 0, 0)))
        disk.cut((1, 3, 0))
        self.no_change(disk, NoCut, lambda: disk.cut((1, 3, 0)))
        self.no_change(disk, NoCut, lambda: disk.cut([]))
        disk.cut(())
        self.assertEqual((disk.lines(), disk.synced()), (["x", "abc", ""], 3))

    def test_cut_lines(self):
        disk = Disk()
        disk.write("first")
        disk.sync()
        for line in ["second", "third", "fourth"]:
            disk.write(line)
        disk.cut((0, 2, 6))
        self.assertEqual((disk.lines(), disk.synced()), (["first", "", "th", "fourth"], 4))

    def test_no_number(self):
        disk = Disk()
        disk.write("a")
        disk.sync()
        disk.write("b")
        for number in [-1, 3, 10 ** 20 - 1, True, False, None, "0", (0,), [0], b"0", *odd_things()]:
            self.no_change(disk, NoNumber, lambda: disk.drop(number))
        disk.drop(2)
        self.assertEqual((disk.lines(), disk.synced()), (["a", "b"], 1))
        disk.drop(1)
        self.assertEqual((disk.lines(), disk.synced()), (["a"], 1))
        disk.write("c")
        self.assertEqual(disk.synced(), 1)
        disk.drop(0)
        self.assertEqual((disk.lines(), disk.synced()), ([], 0))


def own_check(text):
    return sum((at + 1) * ord(sign) for at, sign in enumerate(text)) % 1000003


THINGS = [
    None, True, False, 0, -7, 10 ** 20 - 1, "", " ", "a b", "~'\n", (), (None,), ("wrote",), ("heard", ()), ("heard", (None,)),
    ("heard", ((0, ((("a b",), "c"),)),)), nested_tuple(39), ("x" * 20000, "~" * 20000), (1, True, "1"), tuple(range(3000)),
]


class Lines(unittest.TestCase):
    def test_record_lines(self):
        self.assertEqual(record_line(None), "- 45")
        self.assertEqual(record_line(()), "() " + str(40 + 2 * 41))
        self.assertEqual(record_line(" "), f"' ' {39 + 2 * 32 + 3 * 39}")
        seen = []
        for thing in THINGS:
            text = thing_text(thing)
            line = record_line(thing)
            self.assertEqual(line, f"{text} {own_check(text)}")
            self.assertTrue(same(read_line(line), (thing,)))
            seen.append(sum((at + 1) * ord(sign) for at, sign in enumerate(text)) >= 1000003)
        self.assertEqual(set(seen), {True, False})

    def test_no_thing(self):
        for thing in [nested_tuple(40), nested_tuple(300), [], {}, (1, [2]), b"a", object(), Disk()]:
            with self.assertRaises(NoThing):
                record_line(thing)
        for thing in odd_things():
            if is_own_thing(thing) and thing != nested_tuple(40):
                self.assertTrue(same(read_line(record_line(thing)), (thing,)))
            else:
                with self.assertRaises(NoThing):
                    record_line(thing)

    def test_no_record_lines(self):
        for line in [
            "", " ", "-", "- ", " 45", "-45", "- 46", "- 045", "-  45", "- 45 ", " - 45", "- 45\n", "- +45", "- -45", "- 4 5", "45",
            "- 1000048", "yes", "x 120", "a 97", "'a' 0", "'a", "- 45.0", "( 40", "-0 141", "- no", "45 -", "'~n' 'a'",
        ]:
            self.assertEqual(read_line(line), (), line)
        for thing in odd_things() + [("- 45",), ["- 45"], b"- 45", 45, None]:
            self.assertEqual(read_line(thing), ())
        deep = "(" * 41 + ")" * 41
        self.assertEqual(read_line(f"{deep} {own_check(deep)}"), ())

    def test_each_sign_changed(self):
        for thing in [None, -12, ("wrote",), ("heard", ((1, ((("a",), "b c"),)),)), "a'~\n"]:
            line = record_line(thing)
            others = {}
            for at in range(len(line) + 1):
                changed = [line[:at], line[:at] + line[at + 1:]]
                for sign in "0 1a'()-~,\n":
                    changed += [line[:at] + sign + line[at:], line[:at] + sign + line[at + 1:]]
                for one in changed:
                    if one != line:
                        for told in read_line(one):
                            others[one] = told
            # with the check of just its text a changed line may be one, too
            for one, told in others.items():
                self.assertEqual(record_line(told), one)
            self.assertEqual(others, {})

    def test_all_checks(self):
        for check in range(-3, 2000):
            self.assertEqual(read_line(f"('~n') {check}"), (("\n",),) if check == own_check("('~n')") else ())


if __name__ == "__main__":
    unittest.main()
