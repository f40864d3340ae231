import random
import unittest

from roomleft.editions import Edition
from roomleft.errors import (
    BadBits, BadNumber, BadValue, Broken, Left, NoBits, NoPlace, NoRoom, RoomError, TooFew,
)
from roomleft.kinds import Bits, Call, Choice, Door, Items, Nothing, Number, Part, Room, Row, Way
from roomleft.numbering import message_at
from roomleft.passing import set_at, through
from roomleft.reading import read
from roomleft.tables import table
from roomleft.writing import written
from tests.changes import changed_pairs
from tests.lists import BIT, THREE, ErrorsCase, edition, row, some_editions
from tests.oracle import Oracle
from tests.pairs import random_pairs
from tests.places import body_sizes, places, thing_at, with_thing
from tests.strange import strange_things


def a_few(luck, things, most):
    return luck.sample(things, min(most, len(things)))


class Lists:
    """What the document tells of setting one thing in the messages of an edition, by lists of all messages."""

    def __init__(self, edition, limit):
        self.edition = edition
        self.oracle = Oracle(edition.kinds, edition.count)
        self.messages = self.oracle.of(edition.root, limit)
        self.values = {}

    def values_of(self, kind, limit=6):
        """The values of a kind, with their bits."""
        key = id(kind), limit
        if key not in self.values:
            self.values[key] = [(value, bits) for bits, value, _, _ in self.oracle.messages(kind, limit)], kind
        return self.values[key][0]

    def bits_of(self, kind, value):
        return next(bits for one, bits in self.values_of(kind, 40 if isinstance(kind, Bits) else 14) if one == value)


class SetTest(ErrorsCase):
    def test_each_path_of_each_message(self):
        luck = random.Random(5)
        tried = {"set": 0, "full": 0, "filled": 0, "body": 0}
        for label, one in some_editions(range(0, 200, 2)):
            lists = Lists(one, 9)
            for bits, value, _, _ in a_few(luck, lists.messages, 25):
                for path, kind, bodies in places(one, Call(one.root), value):
                    for thing, its_bits in a_few(luck, lists.values_of(kind), 4):
                        with self.subTest(label=label, bits=bits, path=path, thing=thing):
                            new = with_thing(one, Call(one.root), value, path, thing)
                            self.check(one, (bits, path, thing), new, bodies, tried)
        self.assertGreater(min(tried.values()), 30, tried)

    def check(self, one, arguments, new, bodies, tried):
        bits, path, thing = arguments

        def write(kind, value):
            # The sizes of single pieces: a body that is too long is told of outer bodies, too.
            return longest_written(one, kind, value)

        sizes = body_sizes(one, Call(one.root), new, write)
        long = [body for body in bodies if sizes[body] > 2 ** one.count - 1]
        if long:
            self.raises(NoRoom(long[-1]), set_at, one, bits, path, thing)
            tried["full"] += 1
            return
        made = set_at(one, bits, path, thing)
        self.assertEqual(made, written(one, new))
        self.assertEqual(read(one, made), new)
        tried["set"] += 1
        tried["body"] += bodies != []
        tried["filled"] += bodies != [] and thing_at(one, Call(one.root), read(one, bits), path) is None

    def test_setting_what_is_there_changes_nothing(self):
        for label, one in some_editions(range(0, 300, 3)):
            for bits, value, _, _ in Lists(one, 8).messages[:40]:
                for path, _, _ in places(one, Call(one.root), value):
                    thing = thing_at(one, Call(one.root), value, path)
                    if (path, thing) not in self.unfilled(one, value):
                        self.assertEqual(set_at(one, bits, path, thing), bits, (label, path))

    def unfilled(self, one, value):
        told = []
        for path, kind, _ in places(one, Call(one.root), value):
            if thing_at(one, Call(one.root), value, path) is None and not isinstance(kind, Nothing):
                told.append((path, None))
        return told

    def test_no_other_path(self):
        """Each path that is not one of the message, made of its names and others."""
        luck = random.Random(7)
        for label, one in some_editions(range(0, 200, 4)):
            for bits, value, _, _ in a_few(luck, Lists(one, 8).messages, 5):
                told = {path for path, _, _ in places(one, Call(one.root), value)}
                names = sorted({str(name) for path in told for name in path}) + ["p", "x", "r", "*", "", 0, 1, 7, -1, None]
                for path in told:
                    for name in names:
                        if path + (name,) not in told:
                            self.raises(NoPlace(), set_at, one, bits, path + (name,), None)

    def car(self):
        return Edition({
            "car": Row([Part("speed", Number(0, 99, 7)), Room("1111", "extra", Call("more")), Part("sort", Call("sort"))]),
            "more": Row([Part("load", Items(BIT, 2)), Room("1", "deep", BIT), Part("end", Number(0, 1, 2))]),
            "sort": Choice([Way("0", "van", Nothing()), Way("10", "bus", Items(Number(1, 3))), Door("1100", "new", None),
                            Door("1101", "old", Call("older")), Door("1110", "no", Nothing())]),
            "older": Choice([Way("0", "x", Bits(2)), Door("1", "y", None)]),
        }, "car", 4)

    def test_example(self):
        one = self.car()
        bits = written(one, {"speed": 5, "extra": ({"load": [1, 0], "end": 1}, "111"), "sort": ("bus", [1, 2])})
        sets = [
            (("speed",), 7, {"speed": 7, "extra": ({"load": [1, 0], "end": 1}, "111"), "sort": ("bus", [1, 2])}),
            (("extra",), {"load": [], "end": 0}, {"speed": 5, "extra": ({"load": [], "end": 0}, "111"), "sort": ("bus", [1, 2])}),
            (("extra", "load"), [0], {"speed": 5, "extra": ({"load": [0], "end": 1}, "111"), "sort": ("bus", [1, 2])}),
            (("extra", "load", 1), 1, {"speed": 5, "extra": ({"load": [1, 1], "end": 1}, "111"), "sort": ("bus", [1, 2])}),
            (("sort",), ("van", None), {"speed": 5, "extra": ({"load": [1, 0], "end": 1}, "111"), "sort": ("van", None)}),
            (("sort", "bus"), [], {"speed": 5, "extra": ({"load": [1, 0], "end": 1}, "111"), "sort": ("bus", [])}),
            (("sort", "bus", 0), 3, {"speed": 5, "extra": ({"load": [1, 0], "end": 1}, "111"), "sort": ("bus", [3, 2])}),
            ((), {"speed": 0, "sort": ("no", None, "1")}, {"speed": 0, "sort": ("no", None, "1")}),
        ]
        for path, thing, value in sets:
            self.assertEqual(set_at(one, bits, path, thing), written(one, value))
        self.assertEqual(set_at(edition=one, bits=bits, path=("speed",), value=7), set_at(one, bits, ("speed",), 7))

    def test_filling_a_room(self):
        one = self.car()
        bits = written(one, {"speed": 5, "sort": ("new", None, "0101")})
        self.assertEqual(read(one, set_at(one, bits, ("extra",), {"load": [1], "end": 1})),
                         {"speed": 5, "extra": ({"load": [1], "end": 1}, ""), "sort": ("new", None, "0101")})
        self.raises(NoPlace(), set_at, one, bits, ("extra", "load"), [1])
        self.raises(NoPlace(), set_at, one, bits, ("extra", "deep"), 1)
        self.raises(BadValue(("extra",)), set_at, one, bits, ("extra",), None)
        self.raises(BadValue(("extra",)), set_at, one, bits, ("extra",), ({"load": [1], "end": 1}, ""))
        filled = set_at(one, bits, ("extra",), {"load": [1], "end": 1})
        deep = set_at(one, filled, ("extra", "deep"), 1)
        self.assertEqual(read(one, deep)["extra"], ({"load": [1], "deep": (1, ""), "end": 1}, ""))

    def test_doors(self):
        one = self.car()
        old = written(one, {"speed": 5, "sort": ("old", ("x", "01"), "110")})
        self.assertEqual(read(one, set_at(one, old, ("sort", "old"), ("x", "11")))["sort"], ("old", ("x", "11"), "110"))
        self.assertEqual(read(one, set_at(one, old, ("sort", "old", "x"), "10"))["sort"], ("old", ("x", "10"), "110"))
        self.assertEqual(read(one, set_at(one, old, ("sort", "old"), ("y", None, "1111")))["sort"],
                         ("old", ("y", None, "1111"), "110"))
        self.raises(NoPlace(), set_at, one, old, ("sort", "old", "y"), None)
        no = written(one, {"speed": 5, "sort": ("no", None, "01")})
        self.assertEqual(set_at(one, no, ("sort", "no"), None), no)
        self.raises(BadValue(("sort", "no")), set_at, one, no, ("sort", "no"), 0)
        self.raises(NoPlace(), set_at, one, no, ("sort", "no", "no"), None)
        new = written(one, {"speed": 5, "sort": ("new", None, "01")})
        self.raises(NoPlace(), set_at, one, new, ("sort", "new"), None)
        self.assertEqual(read(one, set_at(one, new, ("sort",), ("new", None, "1")))["sort"], ("new", None, "1"))

    def test_no_place(self):
        one = self.car()
        bits = written(one, {"speed": 5, "sort": ("bus", [1, 2])})
        for path in [["speed"], "speed", None, 0, ("sort", "van"), ("sort", "no"), ("bus",), ("car",), ("sort", "bus", 2),
                     ("sort", "bus", -1), ("sort", "bus", "*"), ("sort", "bus", True), ("sort", "bus", False), ("sort", "bus", "0"),
                     ("sort", "bus", None), ("sort", "bus", 0, 0), ("speed", 0), ("speed", "speed"), ("sort", 0), ("sort", None),
                     (0,), (None,), ("",), ("sort", ""), ((),), (("speed",),), ("sort", "bus", 10 ** 50)]:
            for value in (1, None, [1]):
                self.raises(NoPlace(), set_at, one, bits, path, value)
        for thing in strange_things():
            if thing != () or not isinstance(thing, tuple):
                self.raises(NoPlace(), set_at, one, bits, thing, 1)
            self.raises(NoPlace(), set_at, one, bits, (thing,), 1)
            if not isinstance(thing, int) or isinstance(thing, bool) or thing not in (0, 1):
                self.raises(NoPlace(), set_at, one, bits, ("sort", "bus", thing), 1)

    def test_bad_values(self):
        one = self.car()
        bits = written(one, {"speed": 5, "extra": ({"load": [1, 0], "end": 1}, ""), "sort": ("bus", [1, 2])})
        for path, value, wrong in [
            ((), None, ()), ((), {"speed": 5}, ()), ((), {"speed": 100, "sort": 0}, ("speed",)), ((), {"speed": 1, "sort": 0}, ("sort",)),
            (("speed",), 100, ("speed",)), (("speed",), True, ("speed",)), (("sort",), ("bus", [1, 4]), ("sort", "bus", 1)),
            (("sort", "bus"), [1, 1, 1, None], ("sort", "bus", 3)), (("sort", "bus", 1), 0, ("sort", "bus", 1)),
            (("extra",), {"load": [0, 2], "end": 7}, ("extra", "load", 1)), (("extra",), {"load": [0, 1], "end": 7}, ("extra", "end")),
            (("extra",), {"load": [0] * 4, "end": 7}, ("extra", "load")), (("extra", "deep"), 2, ("extra", "deep")),
            (("extra",), {"load": [], "deep": (1, "1" * 15), "end": 0}, ("extra", "deep")),
            (("extra",), {"load": [], "deep": (2, "1" * 15), "end": 0}, ("extra", "deep")),
            (("sort",), ("new", None, "1" * 16), ("sort", "new")), (("sort",), ("old", ("y", None, "1" * 16), ""), ("sort", "old", "y")),
            (("sort",), ("old", ("y", None, "1" * 11), ""), ("sort", "old")), (("sort",), ("new", 1, ""), ("sort",)),
        ]:
            self.raises(BadValue(wrong), set_at, one, bits, path, value)
        for thing in strange_things():
            if not isinstance(thing, int) or isinstance(thing, bool) or not 0 <= thing <= 99:
                self.raises(BadValue(("speed",)), set_at, one, bits, ("speed",), thing)
            self.raises(BadValue(("extra",)), set_at, one, bits, ("extra",), thing)

    def test_no_room(self):
        one = self.car()
        bits = written(one, {"speed": 5, "extra": ({"load": [], "end": 1}, "1" * 11), "sort": ("old", ("y", None, "1"), "1" * 7)})
        self.raises(NoRoom(("extra",)), set_at, one, bits, ("extra", "load"), [0])
        self.raises(NoRoom(("extra",)), set_at, one, bits, ("extra", "deep"), 0)
        self.raises(NoRoom(("extra",)), set_at, one, bits, ("extra",), {"load": [1], "end": 0})
        self.assertEqual(read(one, set_at(one, bits, ("extra", "end"), 0))["extra"], ({"load": [], "end": 0}, "1" * 11))
        self.raises(NoRoom(("sort", "old")), set_at, one, bits, ("sort", "old"), ("y", None, "1" * 4))
        self.assertEqual(read(one, set_at(one, bits, ("sort", "old"), ("y", None, "1" * 3)))["sort"][1], ("y", None, "111"))
        # A value that fits into no body by itself is too long with no rest, too.
        short = written(one, {"speed": 5, "sort": ("old", ("x", "00"), "")})
        self.raises(NoRoom(("sort", "old")), set_at, one, short, ("sort", "old"), ("y", None, "1" * 11))
        self.raises(BadValue(("sort", "old", "y")), set_at, one, short, ("sort", "old"), ("y", None, "1" * 16))

    def test_innermost_body_with_no_room(self):
        one = Edition({
            "root": Choice([Way("0", "n", Nothing()), Door("1", "d", Items(Call("in"), 1))]),
            "in": Row([Room("1", "r", Call("bit")), Part("p", Number(0, 1, 2))]),
            "bit": Choice([Way("0", "a", Nothing()), Way("10", "b", Bits(1)), Door("11", "u", None)])}, "root", 4)
        full = written(one, ("d", [{"r": (("a", None), "0" * 5), "p": 1}], "0"))
        self.assertEqual(len(full), 1 + 4 + 15)
        self.assertEqual(read(one, set_at(one, full, ("d", 0, "p"), 0)), ("d", [{"r": (("a", None), "0" * 5), "p": 0}], "0"))
        self.raises(NoRoom(("d",)), set_at, one, full, ("d", 0, "r"), ("b", "1"))
        self.raises(NoRoom(("d",)), set_at, one, full, ("d", 0), {"r": (("b", "0"), "0" * 5), "p": 1})
        self.raises(NoRoom(("d",)), set_at, one, full, ("d",), [{"r": (("b", "0"), "0" * 5), "p": 1}])
        self.raises(NoRoom(("d", 0, "r")), set_at, one, full, ("d", 0, "r"), ("u", None, "1" * 13))
        self.raises(BadValue(("d", 0, "r")), set_at, one, full, ("d", 0), {"r": (("u", None, "1" * 13), "0" * 5), "p": 1})
        self.raises(BadValue(("d", 0, "r", "u")), set_at, one, full, ("d", 0, "r"), ("u", None, "1" * 16))

    def test_errors_of_read_first(self):
        one = self.car()
        whole = written(one, {"speed": 5, "sort": ("bus", [1, 2])})
        for path in (("speed",), "x", None):
            for thing in strange_things():
                if not isinstance(thing, str) or thing.strip("01"):
                    self.raises(NoBits(), set_at, one, thing, path, None)
            self.raises(BadBits(1), set_at, edition(root=THREE), "11", path, None)
            self.raises(TooFew(1), set_at, one, whole[:-1], path, None)
            self.raises(Left(len(whole)), set_at, one, whole + "0", path, None)

    def test_values_stay_as_they_are(self):
        one = self.car()
        bits = written(one, {"speed": 5, "sort": ("bus", [1, 2])})
        items = [3, 3]
        value = {"speed": 1, "sort": ("bus", items)}
        set_at(one, bits, (), value)
        set_at(one, bits, ("sort", "bus"), items)
        set_at(one, bits, ("sort",), ("bus", items))
        self.assertEqual((items, value), ([3, 3], {"speed": 1, "sort": ("bus", [3, 3])}))


def longest_written(one, kind, value):
    """The bits of a value in an edition with the same kinds, but with bodies that are as long as can be."""
    if isinstance(kind, Nothing):
        return ""
    try:
        return written(Edition({**one.kinds, "thisone": kind}, "thisone", one.count), value)
    except BadValue:
        # Just the number of bits of the outer bodies is wrong then, and never asked for.
        return "0" * 100


class ThroughTest(ErrorsCase):
    def setUp(self):
        self.new = Edition({"root": Row([Part("p", THREE), Room("11", "r", BIT), Part("q", THREE)])}, "root", 3)
        self.old = Edition({"root": Row([Part("p", THREE), Room("11", "r", None), Part("q", THREE)])}, "root", 3)
        self.bits = written(self.new, {"p": 0, "r": (1, ""), "q": 0})

    def test_programs(self):
        self.assertEqual(through([], self.bits), self.bits)
        self.assertEqual(through([(self.old, [])], self.bits), self.bits)
        self.assertEqual(through([(self.old, []), (self.new, [])], self.bits), self.bits)
        bits = through(programs=[(self.old, [(("p",), 2), (("q",), 1), (("p",), 1)]), (self.new, [(("r",), 0)])], bits=self.bits)
        self.assertEqual(read(self.new, bits), {"p": 1, "r": (0, ""), "q": 1})
        bits = through([(self.old, [((), {"p": 2, "r": (None, "01"), "q": 2})]), (self.new, [(("q",), 0)])], self.bits)
        self.assertEqual(read(self.new, bits), {"p": 2, "r": (0, "1"), "q": 0})

    def test_no_program(self):
        for thing in strange_things():
            self.assertIs(through([], thing), thing)

    def test_broken(self):
        first = (self.old, [(("p",), 1)])
        bare = edition(root=row(THREE))
        cases = [
            ((self.old, [(("x",), 1)]), "NoPlace"), ((self.old, [(("r",), 1)]), "NoPlace"), ((self.old, [(("p",), 3)]), "BadValue"),
            ((self.old, [(("p",), 1), (("p",), None)]), "BadValue"), ((bare, []), "Left"), ((bare, [(("p",), 1)]), "Left"),
            ((edition(root=row(*[THREE] * 8)), []), "BadBits"), ((edition(root=row(Bits(16))), []), "TooFew"),
            ((edition(root=row(Bits(16))), [(("p",), "1" * 16)]), "TooFew"),
        ]
        for program, word in cases:
            self.raises(Broken(0, word), through, [program], self.bits)
            self.raises(Broken(0, word), through, [program, program], self.bits)
            self.raises(Broken(1, word), through, [first, program], self.bits)
            self.raises(Broken(2, word), through, [first, first, program, first], self.bits)
        full = written(self.new, {"p": 0, "r": (1, "1" * 6), "q": 0})
        deep = Edition({"root": self.new.kinds["root"], "more": Items(BIT, 1)}, "root", 3)
        self.assertEqual(through([(deep, [(("r",), 0)])], full), written(self.new, {"p": 0, "r": (0, "1" * 6), "q": 0}))
        items = Edition({"root": Row([Part("p", THREE), Room("11", "r", Items(BIT, 1)), Part("q", THREE)])}, "root", 3)
        full = written(items, {"p": 0, "r": ([], "1" * 6), "q": 0})
        self.raises(Broken(1, "NoRoom"), through, [(items, []), (items, [(("r",), [1])])], full)
        for thing in strange_things():
            if not isinstance(thing, str) or thing.strip("01"):
                self.raises(Broken(0, "NoBits"), through, [(self.old, [])], thing)
                self.raises(Broken(0, "NoBits"), through, [first], thing)

    def test_the_first_that_fails(self):
        self.raises(Broken(0, "NoPlace"), through, [(self.old, [(("x",), 1), (("p",), 9)]), (self.old, [(("p",), 9)])], self.bits)
        self.raises(Broken(1, "BadValue"), through, [(self.old, []), (self.old, [(("p",), 9), (("x",), 1)])], self.bits)


class FactTest(ErrorsCase):
    def test_fifth_main_fact(self):
        """What comes back from a reader is read by the writer, with just the things set that the reader set."""
        luck = random.Random(3)
        sets = 0
        for seed, writer, reader in changed_pairs(range(0, 900, 6)) + random_pairs(range(0, 1500, 15)):
            if table(writer, reader) is None or table(reader, writer) is None:
                continue
            for number in range(12):
                try:
                    bits = message_at(writer, number)
                except BadNumber:
                    break
                self.assertEqual(through([(reader, [])], bits), bits)
                self.assertEqual(written(reader, read(reader, bits)), bits)
                sets += self.check_sets(luck, writer, reader, bits, seed)
        self.assertGreater(sets, 1500)

    def check_sets(self, luck, writer, reader, bits, seed):
        oracle = Oracle(reader.kinds, reader.count)
        value = read(reader, bits)
        sets = 0
        for path, kind, _ in a_few(luck, places(reader, Call(reader.root), value), 4):
            own = [one for _, one, _, is_own in oracle.messages(kind, 5) if is_own]
            for thing in a_few(luck, own, 2):
                try:
                    made = set_at(reader, bits, path, thing)
                except NoRoom:
                    continue
                self.assertEqual(as_read(reader, made), with_thing(reader, Call(reader.root), value, path, thing))
                self.check_like(writer, reader, bits, made, path, (seed, bits, path, thing))
                sets += 1
        return sets

    def check_like(self, writer, reader, bits, made, path, label):
        """For the writer just this thing is set; what it knows of it is what the reader set."""
        before, behind = leaves(writer, read(writer, bits)), leaves(writer, read(writer, made))
        theirs = leaves(reader, read(reader, made))
        self.assertEqual(elsewhere(behind, path), elsewhere(before, path), label)
        for place in behind:
            if place[:len(path)] == path and place in theirs:
                self.assertEqual(behind[place], theirs[place], label)


def leaves(one, value):
    """A dict of the paths of all numbers, bits and Nothings in a value to what stands there."""
    told = {}
    for path, kind, _ in places(one, Call(one.root), value):
        if isinstance(kind, (Number, Bits, Nothing)):
            told[path] = thing_at(one, Call(one.root), value, path)
    return told


def elsewhere(told, path):
    return {place: thing for place, thing in told.items() if place[:len(path)] != path}


def as_read(one, bits):
    try:
        return read(one, bits)
    except RoomError as error:
        return error


if __name__ == "__main__":
    unittest.main()
