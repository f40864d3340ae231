import unittest

from roomleft.editions import Edition
from roomleft.errors import BadEdition, LongBody, MissingKind, RingOfCalls, RoomError, RoomTaken
from roomleft.kinds import Bits, Call, Choice, Door, Items, Nothing, Number, Part, Room, Row, Way
from tests.strange import strange_things

BIT = Number(0, 1)
THREE = Number(0, 2, 2)
LETTERS = "abcdefghijklmnopqrstuvwxyz"


def row(*kinds):
    return Row([Part(LETTERS[at], kind) for at, kind in enumerate(kinds)])


class EditionsTest(unittest.TestCase):
    def refused(self, error, kinds, root="a", count=3):
        """An edition is refused with this error: the same class and the same fields."""
        with self.assertRaises(type(error)) as caught:
            Edition(kinds, root, count)
        self.assertEqual(vars(caught.exception), vars(error))

    def made(self, kinds, root="a", count=3):
        edition = Edition(kinds, root, count)
        self.assertEqual((edition.kinds, edition.root, edition.count), (kinds, root, count))
        return edition


class FieldsTest(EditionsTest):
    def test_kept(self):
        edition = Edition(count=5, kinds={"b": BIT, "a": row(Call("b"))}, root="b")
        self.assertEqual(edition.kinds, {"a": row(Call("b")), "b": BIT})
        self.assertEqual((edition.root, edition.count), ("b", 5))

    def test_kinds_is_new_each_time(self):
        given = {"a": BIT}
        edition = Edition(given, "a", 1)
        given["b"] = 7
        edition.kinds["c"] = 8
        edition.kinds.clear()
        self.assertEqual(edition.kinds, {"a": BIT})
        self.assertIsNot(edition.kinds, edition.kinds)
        self.assertIs(type(edition.kinds), dict)

    def test_equality(self):
        one = Edition({"a": BIT, "b": Bits(2)}, "a", 1)
        self.assertTrue(one == Edition({"b": Bits(2), "a": Number(0, 1)}, "a", 1))
        self.assertFalse(one != Edition({"b": Bits(2), "a": Number(0, 1)}, "a", 1))
        for other in (
            Edition({"a": BIT, "b": Bits(2)}, "b", 1), Edition({"a": BIT, "b": Bits(2)}, "a", 2),
            Edition({"a": BIT, "b": Bits(3)}, "a", 1), Edition({"a": BIT}, "a", 1),
            Edition({"a": BIT, "c": Bits(2)}, "a", 1), Edition({"a": Call("b"), "b": Bits(2)}, "a", 1),
            Edition({"a": BIT, "b": Bits(2), "c": BIT}, "a", 1),
            Edition({"a": BIT, "b": row(Bits(2))}, "a", 1),
            Edition({"a": BIT, "b": Choice([Way("0", "x", Bits(2))])}, "a", 1),
        ):
            self.assertFalse(one == other)
            self.assertFalse(other == one)
            self.assertTrue(one != other)
        kinds = [BIT, Bits(1), Items(BIT), Items(Bits(1)), Call("b"), row(BIT), Choice([Way("0", "a", BIT)])]
        for at, kind in enumerate(kinds):
            for number, other in enumerate(kinds):
                same = Edition({"a": kind, "b": BIT}, "a", 1) == Edition({"a": other, "b": BIT}, "a", 1)
                self.assertIs(same, at == number)

    def test_1_20_and_21_kinds(self):
        for many in (1, 2, 19, 20):
            self.made({name: BIT for name in LETTERS[:many]})
        self.refused(BadEdition("kinds"), {name: BIT for name in LETTERS[:21]})
        self.refused(BadEdition("kinds"), {})

    def test_each_class_of_kinds(self):
        for kind in (BIT, THREE, Bits(16), Items(BIT), Items(BIT, 3), Choice([Way("0", "x", Nothing())]), row(BIT)):
            self.made({"a": kind})
            self.made({"a": Call("z"), "z": kind})


class BadEditionTest(EditionsTest):
    def test_kinds(self):
        for thing in strange_things():
            self.refused(BadEdition("kinds"), thing)
            kind = {"a": BIT, "b": thing}
            if type(thing) in (Number, Bits, Items, Call, Choice, Row):
                self.made(kind)
            else:
                self.refused(BadEdition("kinds"), kind)

    def test_names(self):
        for name in ("abcdefgh", "z"):
            self.made({"a": BIT, name: BIT})
        for name in ("", "abcdefghi", "A", "a1", "\u00e4", None, 1, True, b"a", ("a",), 10 ** 59):
            self.refused(BadEdition("kinds"), {"a": BIT, name: BIT})
            self.refused(BadEdition("kinds"), {name: BIT}, name)

    def test_root(self):
        for thing in strange_things():
            if not (type(thing) is str and thing in ("a", "ab")):
                self.refused(BadEdition("root"), {"a": BIT, "ab": BIT}, thing)
        self.made({"a": BIT, "ab": BIT}, "ab")
        self.refused(BadEdition("root"), {"a": BIT}, "b")

    def test_count(self):
        for count in (1, 2, 3, 4, 5):
            self.made({"a": BIT}, "a", count)
        for thing in strange_things() + [0, 6, -1]:
            if type(thing) is not int or not 1 <= thing <= 5:
                self.refused(BadEdition("count"), {"a": BIT}, "a", thing)

    def test_the_first_one_is_told_ahead_of_all_other_errors(self):
        bad = {"a": row(Call("none"))}
        self.refused(BadEdition("kinds"), [], None, None)
        self.refused(BadEdition("root"), bad, None, None)
        self.refused(BadEdition("count"), bad, "a", 0)
        self.refused(MissingKind("none"), bad, "a", 1)


class CallsTest(EditionsTest):
    def holders(self, name):
        """Kinds with a call at each place where one can stand."""
        call = Call(name)
        yield call
        yield Items(call)
        yield Items(call, 1)
        for kind in (call, Items(call), Items(call, 2)):
            yield Choice([Way("0", "x", Nothing()), Way("1", "y", kind)])
            yield Choice([Way("0", "x", Nothing()), Door("1", "y", kind)])
            yield row(BIT, kind)
            yield Row([Room("11", "x", kind), Part("y", THREE)])

    def test_missing(self):
        for kind in self.holders("no"):
            self.refused(MissingKind("no"), {"a": kind})
            self.refused(MissingKind("no"), {"a": BIT, "b": kind})

    def test_the_least_missing_name(self):
        self.refused(MissingKind("b"), {"a": row(Call("d"), Call("b"), Call("c"))})
        self.refused(MissingKind("aa"), {"a": Call("b"), "d": row(Call("b"), Call("aa"))})
        self.refused(MissingKind("bbb"), {"a": row(Call("c"), Call("bbb"))})

    def test_ring(self):
        for kind in self.holders("b"):
            self.refused(RingOfCalls("b"), {"a": BIT, "b": kind})
            self.refused(RingOfCalls("b"), {"b": kind, "a": Call("b")}, "b")
            self.refused(RingOfCalls("b"), {"a": BIT, "b": Call("c"), "c": kind})
            self.refused(RingOfCalls("aa"), {"a": Call("b"), "b": Call("c"), "c": Call("aa"), "aa": kind})

    def test_the_least_name_in_a_ring(self):
        kinds = {"a": Call("d"), "d": Call("c"), "c": Call("d"), "b": Call("z"), "z": BIT}
        self.refused(RingOfCalls("c"), kinds)
        self.refused(RingOfCalls("b"), {**kinds, "z": row(BIT, Call("b"))})

    def test_missing_goes_ahead_of_a_ring(self):
        self.refused(MissingKind("z"), {"a": row(Call("a"), Call("z"))})

    def test_a_ring_goes_ahead_of_a_long_body(self):
        long_one = Choice([Way("0", "x", Nothing()), Door("1", "y", Bits(16))])
        self.refused(RingOfCalls("b"), {"a": long_one, "b": Call("b")})

    def test_no_ring(self):
        self.made({"a": row(Call("b"), Call("b"), Call("c")), "b": Call("c"), "c": Call("d"), "d": BIT})
        chain = {LETTERS[at]: row(Call(LETTERS[at + 1]), Call(LETTERS[at + 1])) for at in range(19)}
        self.made({**chain, LETTERS[19]: BIT})


class LongBodyTest(EditionsTest):
    def door(self, kind):
        return Choice([Way("0", "x", Nothing()), Door("1", "y", kind)])

    def room(self, kind):
        return Row([Room("11", "y", kind), Part("x", THREE)])

    def at_most(self, kind, size, **others):
        """The longest own message of a kind has this many bits."""
        for make in (self.door, self.room):
            for count in range(1, 6):
                kinds = {"a": make(kind), **others}
                if size is not None and size <= 2 ** count - 1:
                    self.made(kinds, "a", count)
                else:
                    self.refused(LongBody("a", "y"), kinds, "a", count)

    def test_nothing(self):
        self.made({"a": self.door(Nothing())}, "a", 1)

    def test_unknown_ones_are_never_too_long(self):
        self.at_most(None, 0)

    def test_numbers(self):
        for size in (1, 3, 7, 15, 31):
            for more in (0, 1):
                self.at_most(Number(5, 5 + 2 ** (size + more) - 1), size + more)
                self.at_most(Number(5, 6, size + more), size + more)
            self.at_most(Number(5, 5 + 2 ** size), size + 1)
        for size in (2, 3, 7, 15, 31):
            self.at_most(Number(5, 5 + 2 ** size - 2), size)
        self.at_most(Number(0, 2 ** 60 - 1), 60)

    def test_bits(self):
        for many in range(1, 17):
            self.at_most(Bits(many), many)

    def test_items(self):
        self.at_most(Items(BIT), None)
        self.at_most(Items(Bits(16)), None)
        for item, size in ((BIT, 1), (Bits(4), 4), (Number(0, 2), 2)):
            for width in (1, 2, 3):
                self.at_most(Items(item, width), width + (2 ** width - 1) * size)

    def test_calls(self):
        self.at_most(Call("b"), 7, b=row(Bits(3), Bits(4)))
        self.at_most(Call("b"), 8, b=row(Bits(4), Bits(4)))
        self.at_most(Call("b"), 15, b=Call("c"), c=row(Bits(8), Number(0, 127)))
        self.at_most(Call("b"), 16, b=Call("c"), c=row(Bits(8), Number(0, 128)))
        self.at_most(Call("b"), None, b=row(Bits(1), Items(Call("c"))), c=BIT)
        self.at_most(Items(Call("b"), 2), 2 + 3 * 9, b=row(Bits(4), Bits(5)))
        self.at_most(Call("b"), 31, b=Choice([Way("00", "x", Nothing()), Way("01111111", "y", Number(0, 1, 23))]))
        self.at_most(Call("b"), 32, b=Choice([Way("00", "x", Nothing()), Way("01111111", "y", Number(0, 1, 24))]))

    def test_doors_and_rooms_within_called_kinds(self):
        inner = Choice([Way("0", "p", Nothing()), Door("11", "q", Bits(2))])
        self.made({"a": self.door(Call("b")), "b": inner}, "a", 3)
        self.refused(LongBody("a", "y"), {"a": self.door(Call("b")), "b": Choice([
            Way("0", "p", Nothing()), Door("11", "q", Bits(3))])}, "a", 3)
        roomy = Row([Room("11", "q", BIT), Part("p", THREE)])
        self.refused(LongBody("a", "y"), {"a": self.door(Call("b")), "b": roomy}, "a", 3)
        self.made({"a": self.door(Call("b")), "b": roomy}, "a", 4)
        roomy = Row([Room("1", "q", BIT), Part("p", Number(0, 1, 2))])
        self.made({"a": self.door(Call("b")), "b": roomy}, "a", 3)

    def test_unknown_doors_and_rests_make_no_own_message_longer(self):
        unknown = Choice([Way("0", "p", Nothing()), Door("11", "q", None)])
        self.made({"a": self.door(Call("b")), "b": unknown}, "a", 1)
        roomy = Row([Room("1111", "q", None), Part("p", Number(0, 2, 3))])
        self.made({"a": self.door(Call("b")), "b": roomy}, "a", 2)
        known = Choice([Way("0", "p", Nothing()), Door("11", "q", Nothing())])
        self.made({"a": self.door(Call("b")), "b": known}, "a", 3)
        self.refused(LongBody("a", "y"), {"a": self.door(Call("b")), "b": known}, "a", 1)

    def test_the_least_kind_and_its_first_door(self):
        good = Door("00", "x", BIT)
        bad = [Door("01", "y", Bits(9)), Door("10", "z", Bits(9))]
        way = Way("11", "w", Bits(16))
        kinds = {"c": Choice([good] + bad + [way]), "b": Choice([way, good] + bad[::-1]), "a": Choice([way, good])}
        self.refused(LongBody("b", "z"), kinds)
        del kinds["b"]
        self.refused(LongBody("c", "y"), kinds)
        rooms = Row([Room("110", "x", BIT), Room("111", "v", Bits(9)), Room("111", "u", Bits(9)), Part("w", THREE)])
        self.refused(LongBody("a", "v"), {"a": rooms})

    def test_what_fits_into_no_body_is_no_own_message(self):
        # The door of b can have no body at all, so that the longest own message of b has one bit.
        inner = Choice([Way("0", "p", Nothing()), Door("1", "q", Bits(16))])
        self.refused(LongBody("b", "q"), {"a": self.door(Call("b")), "b": inner}, "a", 3)
        # Of the door's messages those with up to 7 bits fit: b has own messages with 1 + 3 + 7 bits.
        inner = Choice([Way("0", "p", Nothing()), Door("1", "q", Items(BIT))])
        self.refused(LongBody("a", "y"), {"a": self.door(Call("b")), "b": inner}, "a", 3)

    def test_ahead_of_a_taken_room(self):
        taken = Row([Room("1", "x", None), Part("y", BIT)])
        self.refused(LongBody("b", "y"), {"a": taken, "b": self.door(Bits(8))})
        self.refused(RoomTaken("a", "x"), {"a": taken, "b": self.door(Bits(7))})


class RoomTakenTest(EditionsTest):
    def words(self, free, taken, *parts, count=2, **others):
        """A room with one of the free words can stand ahead of the parts; with one of the others it cannot."""
        for word in free:
            self.made({"a": Row([Room(word, "room", None), *parts]), **others}, "a", count)
        for word in taken:
            self.refused(RoomTaken("a", "room"), {"a": Row([Room(word, "room", None), *parts]), **others}, "a", count)

    def test_words_that_begin_a_message_or_begin_with_one(self):
        self.words(
            ["11", "110", "11111111"], ["0", "1", "00", "01", "10", "000", "010", "1000", "01111111"],
            Part("p", THREE),
        )

    def test_complete_kinds_leave_no_word(self):
        words = ["0", "1", "01", "11", "111", "11111111", "00000000"]
        for kind in (BIT, Number(0, 2), Number(0, 3, 2), Bits(1), Bits(16), Items(BIT), Items(Bits(3), 3)):
            self.words([], words, Part("p", kind))

    def test_items(self):
        self.words(["111"], ["1", "0", "11", "110", "1100", "01"], Part("p", Items(THREE)))
        self.words(
            ["0111", "1111", "110111", "11010111"], ["0", "00", "010", "10", "11", "111", "11011", "1101011"],
            Part("p", Items(THREE, 2)),
        )

    def test_great_numbers(self):
        for many in (2 ** 60, 2 ** 60 - 1, 2 ** 59 + 1):
            self.words([], ["0", "1", "11111111", "00000000"], Part("p", Number(0, many - 1)))
        self.words(["11", "10000001"], ["0", "1", "10", "10000000"], Part("p", Number(7, 7 + 2 ** 59, 60)))
        self.words([], ["11111111"], Part("p", Number(0, 2 ** 60 - 2, 60)))
        self.words(["1", "01", "00000001"], ["0", "00000000"], Part("p", Number(-1, 0, 60)))

    def test_choices(self):
        ways = [Way("00", "x", Nothing()), Way("010", "y", BIT), Door("1111", "z", None)]
        self.words(
            ["10", "110", "011", "1110"], ["0", "1", "00", "000", "01", "010", "0101", "11", "1111", "111100"],
            Part("p", Call("b")), b=Choice(ways),
        )

    def test_the_count_of_a_known_door(self):
        # Two bits must fit into the body, so its count does not begin with 0.
        known = Choice([Way("0", "x", Nothing()), Door("1", "y", Bits(2))])
        self.words(["10", "100"], ["1", "11", "110"], Part("p", Call("b")), b=known)
        unknown = Choice([Way("0", "x", Nothing()), Door("1", "y", None)])
        self.words([], ["10", "100", "1", "11"], Part("p", Call("b")), b=unknown)
        nothing = Choice([Way("0", "x", Nothing()), Door("1", "y", Nothing())])
        self.words([], ["10", "100", "1", "11"], Part("p", Call("b")), b=nothing)

    def test_a_later_part(self):
        self.words(["011", "111"], ["110", "11", "01", "010", "00", "1"], Part("p", BIT), Part("q", THREE))
        self.words([], ["0", "111", "010"], Part("p", BIT), Part("q", BIT))

    def test_several_rooms_behind_one_another(self):
        second = Room("111", "second", None)
        self.words(["110"], ["11", "111", "1110", "10"], second, Part("p", THREE))
        # The rooms' own count must be great enough: what begins otherwise is free.
        known = Room("111", "second", Bits(2))
        self.words(["110", "1110"], ["11", "111", "1111"], known, Part("p", THREE))

    def test_rooms_ahead_of_calls_of_rows_with_rooms(self):
        roomy = Row([Room("110", "inner", None), Part("p", THREE)])
        self.words(["111"], ["11", "110", "1100", "10"], Part("p", Call("b")), b=roomy)
        self.words(["0111"], ["0110", "111"], Part("o", BIT), Part("p", Call("b")), Part("q", BIT), b=roomy)

    def test_a_kind_that_calls_one_with_such_a_room_is_not_told(self):
        taken = Row([Room("10", "r", None), Part("p", THREE)])
        self.refused(RoomTaken("c", "r"), {"a": Row([Room("10", "s", None), Part("q", Call("c"))]), "c": taken})
        self.refused(RoomTaken("c", "r"), {
            "a": Row([Room("10", "s", None), Part("q", Call("b"))]), "b": Call("c"), "c": taken})
        door = Choice([Way("0", "x", Nothing()), Way("10", "y", Call("c"))])
        self.refused(RoomTaken("c", "r"), {
            "a": Row([Room("1", "s", Call("b")), Part("q", BIT)]), "b": door, "c": taken}, "a", 4)
        self.refused(RoomTaken("c", "r"), {
            "a": Row([Room("1", "s", None), Part("q", BIT), Part("o", Items(Call("c")))]), "c": taken})

    def test_the_least_of_several_kinds(self):
        taken = Row([Room("10", "r", None), Part("p", THREE)])
        self.refused(RoomTaken("b", "r"), {"c": taken, "b": taken, "a": Call("c")})
        self.refused(RoomTaken("b", "s"), {
            "c": taken, "b": Row([Room("0", "s", None), Part("p", BIT)]), "a": Row([Room("0", "t", None), Part("p", Call("c"))])})

    def test_the_last_room_of_a_row_is_told(self):
        self.refused(RoomTaken("a", "t"), {"a": Row([
            Room("10", "s", None), Room("01", "t", None), Room("11", "u", None), Part("p", THREE)])})
        self.refused(RoomTaken("a", "s"), {"a": Row([Room("11", "s", None), Room("11", "u", None), Part("p", THREE)])})
        self.refused(RoomTaken("a", "s"), {"a": Row([
            Room("0", "r", None), Part("p", BIT), Room("00", "s", None), Part("q", THREE)])})
        self.refused(RoomTaken("a", "r"), {"a": Row([
            Room("0", "r", None), Part("p", BIT), Room("11", "s", None), Part("q", THREE)])})

    def test_room_for_eight_bits(self):
        rooms = [Room("11" + format(at, "06b"), LETTERS[at], None) for at in range(7)]
        self.made({"a": Row(rooms + [Part("p", THREE)])})

    def test_a_full_edition(self):
        kinds = {}
        for at in range(20):
            inner = Call(LETTERS[at + 1]) if at < 19 else THREE
            kinds[LETTERS[at]] = Row([Room("111" + format(at, "05b"), "r", None), Part("p", inner), Part("q", inner)])
        self.made(kinds, "a", 5)
        kinds["a"] = Row([Room("11110011", "r", None), Part("p", Call("b"))])
        self.refused(RoomTaken("a", "r"), kinds, "a", 5)


class DocumentTest(unittest.TestCase):
    def test_example(self):
        sort = Choice([Way("0", "van", Nothing()), Way("10", "bus", Number(1, 3))])
        car = Row([Part("speed", Number(0, 99, 7)), Part("sort", Call("sort"))])
        first = Edition({"car": car, "sort": sort}, "car", 4)
        self.assertEqual(first.root, "car")

    def test_all_errors_are_room_errors(self):
        with self.assertRaises(RoomError):
            Edition({}, "a", 1)


if __name__ == "__main__":
    unittest.main()
