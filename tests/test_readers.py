import unittest

from roomleft.editions import Edition
from roomleft.errors import BadBits, Left, NoBits, NoKind, NoUndo, TooFew
from roomleft.kinds import Bits, Call, Choice, Door, Items, Nothing, Number, Part, Room, Row, Way
from roomleft.reading import read
from roomleft.readers import Reader, events
from tests.oracle import Beginnings, Oracle
from tests.samples import sample_editions
from tests.strange import strange_things

BIT = Number(0, 1)
THREE = Number(0, 2, 2)


def car():
    return Edition({
        "car": Row([Part("speed", Number(0, 99, 7)), Part("sort", Call("sort"))]),
        "sort": Choice([Way("0", "van", Nothing()), Way("10", "bus", Number(1, 3))]),
    }, "car", 4)


def long_word():
    """Four bits are taken before it is sure whether the room is filled."""
    return Edition({"a": Row([
        Room("1111", "r", Bits(1)), Part("p", BIT), Part("q", BIT), Part("o", THREE)])}, "a", 2)


def pushed(reader, bits):
    return [reader.push(bit) for bit in bits]


class EventsTest(unittest.TestCase):
    def test_document(self):
        self.assertEqual(events(car(), "00001011010"), [
            (6, (("speed",), "number", 0)), (8, (("sort",), "way", "bus")), (10, (("sort", "bus"), "number", 0))])

    def test_all_messages(self):
        for name, (edition, size) in sample_editions().items():
            for kind in edition.kinds:
                for bits, _, told, _ in Oracle(edition.kinds, edition.count).of(kind, size + 1):
                    self.assertEqual(events(edition, bits, kind), list(told), (name, kind, bits))

    def test_each_event(self):
        edition = Edition({
            "a": Row([
                Part("n", Number(5, 9)), Part("w", Number(-4, 0, 5)), Part("b", Bits(3)), Part("i", Items(Call("c"))),
                Part("j", Items(BIT, 2)), Room("1110", "r", Items(BIT, 1)), Room("1111", "u", None), Part("d", Call("c")),
            ]),
            "c": Choice([
                Way("0", "x", Nothing()), Way("10", "y", THREE), Door("1100", "known", BIT),
                Door("11010", "dark", None), Door("11011", "nil", Nothing()),
            ]),
        }, "a", 2)
        bits = "".join([
            "110", "00011", "101", "1", "10", "01", "1", "1100", "11", "1", "01", "1", "0", "0",
            "10", "1", "0", "1110", "10", "1", "0", "1111", "01", "1", "11011", "10", "00",
        ])
        read(edition, bits)
        self.assertEqual([(at, *event) for at, event in events(edition, bits)], [
            (2, ("n",), "number", 2),
            (7, ("w",), "number", -4),
            (10, ("b",), "bits", 3),
            (11, ("i",), "more", 0),
            (13, ("i", "*"), "way", "y"),
            (15, ("i", "*", "y"), "number", 0),
            (16, ("i",), "more", 0),
            (20, ("i", "*"), "door", "known"),
            (22, ("i", "*", "known"), "size", 2),
            (23, ("i", "*", "known"), "number", 0),
            (26, ("i",), "more", 0),
            (27, ("i", "*"), "way", "x"),
            (28, ("i",), "end", 0),
            (30, ("j",), "count", 2),
            (31, ("j", "*"), "number", 0),
            (32, ("j", "*"), "number", 0),
            (36, (), "room", "r"),
            (38, ("r",), "size", 2),
            (39, ("r",), "count", 1),
            (40, ("r", "*"), "number", 0),
            (44, (), "room", "u"),
            (52, ("d",), "door", "nil"),
            (54, ("d", "nil"), "size", 2),
        ])

    def test_from_an_event_and_its_bits_the_integer_is_told(self):
        for low, many, width in ((5, 5, None), (-9, 11, None), (0, 2 ** 60 - 1, None), (7, 8, None), (-3, 5, 60)):
            edition = Edition({"a": Number(low, low + many - 1, width)}, "a", 1)
            for bits in ("0" * 60, "1" * 60, "10" * 30, "1" * 3 + "0" * 57, "0" * 58 + "10"):
                reader = Reader(edition)
                told = []
                for bit in bits:
                    if bit in reader.may():
                        told = reader.push(bit)
                if reader.is_whole():
                    ((at, (path, word, thing)),) = told
                    self.assertEqual((at, path, word), (len(reader.bits()) - 1, (), "number"))
                    self.assertEqual(thing + int(reader.bits(), 2), read(edition, reader.bits()))

    def test_errors_of_read(self):
        edition = car()
        for bits, error in (("0", TooFew), ("111", BadBits), ("000010100", Left), (None, NoBits), ("x", NoBits)):
            with self.assertRaises(error) as caught:
                events(edition, bits)
            with self.assertRaises(error) as expected:
                read(edition, bits)
            self.assertEqual(vars(caught.exception), vars(expected.exception))

    def test_kinds(self):
        edition = car()
        self.assertEqual(events(edition, "0", "sort"), [(0, ((), "way", "van"))])
        self.assertEqual(events(edition=edition, bits="0", kind="sort"), [(0, ((), "way", "van"))])
        for thing in strange_things() + ["speed"]:
            if thing is not None:
                for bits in ("0", 5):
                    with self.assertRaises(NoKind):
                        events(edition, bits, thing)
                with self.assertRaises(NoKind):
                    Reader(edition, thing)
                with self.assertRaises(NoKind):
                    Reader(edition=edition, kind=thing)

    def test_new_lists(self):
        edition = car()
        told = events(edition, "00001010")
        told.clear()
        self.assertEqual(len(events(edition, "00001010")), 2)


class ReaderTest(unittest.TestCase):
    def test_every_beginning(self):
        for name, (edition, size) in sample_editions().items():
            oracle = Oracle(edition.kinds, edition.count)
            for kind in edition.kinds:
                longest = size + oracle.greatest_lack(edition.kinds[kind])
                told = Beginnings(oracle.of(kind, min(longest, 19)))
                with self.subTest(name=name, kind=kind):
                    self.walk(Reader(edition, kind), told, set(), size)

    def walk(self, reader, told, known, size):
        """Goes through all beginnings with up to size bits by pushes and undos."""
        bits = reader.bits()
        self.assertEqual(reader.lack(), told.ends[bits] - len(bits))
        self.assertIs(reader.is_whole(), bits in told.whole)
        if len(bits) == size:
            return
        may = "".join(bit for bit in "01" if bits + bit in told.ends)
        self.assertEqual(reader.may(), may, bits)
        for bit in "01":
            if bit in may:
                got = reader.push(bit)
                self.assertEqual(got, sorted(told.sure[bits + bit] - known), bits + bit)
                self.walk(reader, told, known | set(got), size)
                reader.undo()
            else:
                with self.assertRaises(BadBits) as caught:
                    reader.push(bit)
                self.assertEqual(caught.exception.at, len(bits))
            self.assertEqual(reader.bits(), bits)

    def test_events_at_their_bits(self):
        reader = Reader(car())
        told = pushed(reader, "00001011010")
        self.assertEqual(told[6], [(6, (("speed",), "number", 0))])
        self.assertEqual(told[8], [(8, (("sort",), "way", "bus"))])
        self.assertEqual([at for at in range(11) if told[at]], [6, 8, 10])

    def test_a_room_whose_word_is_longer_than_the_part_behind_it(self):
        reader = Reader(long_word())
        self.assertEqual(pushed(reader, "110"), [[], [], [(0, (("p",), "number", 0)), (1, (("q",), "number", 0))]])
        self.assertEqual(reader.push("1"), [(3, (("o",), "number", 0))])
        self.assertTrue(reader.is_whole())
        reader = Reader(long_word())
        self.assertEqual(pushed(reader, "1111"), [[], [], [], [(3, ((), "room", "r"))]])
        self.assertEqual(pushed(reader, "01" + "0"), [[], [(5, (("r",), "size", 2))], [(6, (("r",), "bits", 1))]])
        reader = Reader(long_word())
        self.assertEqual(pushed(reader, "1110"), [
            [], [], [], [(0, (("p",), "number", 0)), (1, (("q",), "number", 0)), (3, (("o",), "number", 0))]])
        self.assertEqual(pushed(Reader(long_word()), "0"), [[(0, (("p",), "number", 0))]])

    def test_eight_bits_before_an_event_is_sure(self):
        edition = Edition({"a": Row([Room("11111111", "r", None)] + [Part(name, BIT) for name in "abcdef"] + [
            Part("g", THREE)])}, "a", 1)
        reader = Reader(edition)
        self.assertEqual(pushed(reader, "1111111"), [[]] * 7)
        told = reader.push("0")
        self.assertEqual([at for at, _ in told], [0, 1, 2, 3, 4, 5, 7])
        reader.undo()
        self.assertEqual(reader.push("1"), [(7, ((), "room", "r"))])
        reader.undo(8)
        self.assertEqual([at for at, _ in pushed(reader, "11110")[-1]], [0, 1, 2, 3, 4])

    def test_a_body_without_enough_bits_makes_an_event_sure(self):
        # A filled room and the parts need twelve bits, and there are four, so that the first part is sure at once.
        edition = Edition({
            "a": Choice([Way("0", "w", Nothing()), Door("1", "d", Call("b"))]),
            "b": Row([Room("1111", "r", None), Part("p", BIT), Part("q", BIT), Part("o", THREE)]),
        }, "a", 4)
        reader = Reader(edition)
        pushed(reader, "1" + "0100")
        self.assertEqual(reader.push("1"), [(5, (("d", "p"), "number", 0))])
        reader.undo(2)
        reader.undo(3)
        pushed(reader, "1100")
        self.assertEqual(reader.push("1"), [])

    def test_lack_and_may(self):
        reader = Reader(car())
        self.assertEqual((reader.lack(), reader.may(), reader.is_whole(), reader.bits()), (8, "01", False, ""))
        pushed(reader, "11")
        self.assertEqual((reader.lack(), reader.may(), reader.is_whole(), reader.bits()), (6, "0", False, "11"))
        pushed(reader, "000111")
        self.assertEqual((reader.lack(), reader.may(), reader.is_whole()), (2, "0", False))
        pushed(reader, "01")
        self.assertEqual((reader.lack(), reader.may(), reader.is_whole()), (1, "01", False))
        reader.push("0")
        self.assertEqual((reader.lack(), reader.may(), reader.is_whole()), (0, "", True))
        self.assertEqual(reader.bits(), "11000111010")

    def test_refused_pushes_change_nothing(self):
        reader = Reader(long_word())
        reader.push("1")
        reader.push("1")
        for thing in strange_things():
            if not (type(thing) is str and thing in ("0", "1")):
                with self.assertRaises(NoBits):
                    reader.push(thing)
        self.assertEqual(reader.bits(), "11")
        self.assertEqual(len(reader.push("0")), 2)
        reader.push("0")
        for bit in "01":
            with self.assertRaises(BadBits) as caught:
                reader.push(bit)
            self.assertEqual(caught.exception.at, 4)
        with self.assertRaises(NoBits):
            reader.push("x")
        self.assertEqual(reader.bits(), "1100")
        self.assertTrue(reader.is_whole())
        reader = Reader(car())
        pushed(reader, "11")
        with self.assertRaises(BadBits) as caught:
            reader.push(bit="1")
        self.assertEqual(caught.exception.at, 2)
        self.assertEqual((reader.bits(), reader.may()), ("11", "0"))
        self.assertEqual(reader.push(bit="0"), [])

    def test_undo(self):
        reader = Reader(car())
        with self.assertRaises(NoUndo):
            reader.undo()
        first = pushed(reader, "00001011010")
        for many in (4, 1, 6, 11):
            self.assertIsNone(reader.undo(many))
            self.assertEqual(reader.bits(), "00001011010"[:11 - many])
            self.assertEqual(pushed(reader, "00001011010"[11 - many:]), first[11 - many:])
        reader.undo(many=3)
        self.assertEqual(reader.bits(), "00001011")
        for thing in strange_things() + [0, 9, -1, 10 ** 59]:
            if type(thing) is not int or not 1 <= thing <= 8:
                with self.assertRaises(NoUndo):
                    reader.undo(thing)
                with self.assertRaises(NoUndo):
                    reader.undo(many=thing)
        self.assertEqual(reader.bits(), "00001011")
        self.assertEqual(pushed(reader, "010"), first[8:])
        reader.undo()
        self.assertEqual(reader.bits(), "0000101101")
        self.assertEqual(reader.may(), "01")
        reader.undo(10)
        self.assertEqual((reader.bits(), reader.lack()), ("", 8))
        with self.assertRaises(NoUndo):
            reader.undo(1)

    def test_undo_tells_again_just_what_was_taken_back(self):
        reader = Reader(long_word())
        pushed(reader, "11")
        self.assertEqual(len(reader.push("0")), 2)
        reader.undo(1)
        self.assertEqual(reader.push("1"), [])
        self.assertEqual([at for at, _ in reader.push("0")], [0, 1, 3])
        reader.undo(3)
        self.assertEqual([at for at, _ in reader.push("0")], [0, 1])

    def test_copies_go_on_apart(self):
        reader = Reader(long_word())
        pushed(reader, "11")
        other = reader.copy()
        self.assertIsInstance(other, Reader)
        self.assertEqual(other.bits(), "11")
        self.assertEqual(len(reader.push("0")), 2)
        self.assertEqual((other.bits(), other.may(), other.lack()), ("11", "01", 2))
        third = reader.copy()
        self.assertEqual([at for at, _ in third.push("1")], [3])
        self.assertEqual(other.push("1"), [])
        other.undo(3)
        self.assertEqual((reader.bits(), other.bits(), third.bits()), ("110", "", "1101"))
        third.undo(2)
        self.assertEqual([at for at, _ in third.push("0")], [0, 1])
        self.assertEqual([at for at, _ in reader.push("0")], [3])

    def test_copies_keep_their_kind(self):
        reader = Reader(car(), "sort").copy()
        self.assertEqual(reader.push("0"), [(0, ((), "way", "van"))])
        self.assertTrue(reader.is_whole())

    def test_a_told_list_belongs_to_the_caller(self):
        reader = Reader(long_word())
        pushed(reader, "11")
        told = reader.push("0")
        told.clear()
        told.append("odd")
        self.assertEqual(reader.push("1"), [(3, (("o",), "number", 0))])
        reader.undo(2)
        again = reader.push("0")
        self.assertEqual([at for at, _ in again], [0, 1])
        self.assertIsNot(again, told)

    def test_kinds(self):
        edition = car()
        for kind in (None, "car"):
            reader = Reader(edition, kind)
            pushed(reader, "00001010")
            self.assertTrue(reader.is_whole())
        reader = Reader(edition=edition, kind="sort")
        self.assertEqual(reader.push(bit="0"), [(0, ((), "way", "van"))])

    def test_many_bits(self):
        edition = Edition({"a": Items(Call("b")), "b": Row([Room("11", "r", None), Part("p", THREE)])}, "a", 2)
        bits = ("1" + "10" + "1" + "11" + "10" + "01" + "00") * 330
        reader = Reader(edition)
        told = [event for bit in bits for event in reader.push(bit)]
        self.assertEqual(told, events(edition, bits + "0")[:-1])
        self.assertEqual((reader.bits(), reader.lack(), reader.may()), (bits, 1, "01"))
        reader.undo(len(bits) - 1)
        self.assertEqual((reader.bits(), reader.lack()), ("1", 3))


if __name__ == "__main__":
    unittest.main()
