import unittest

from roomleft.editions import Edition
from roomleft.errors import BadBits, BadNumber, NoBits, NoKind, TooMany
from roomleft.free import free_words, is_free, is_least_free, least_free, room_words, way_words
from roomleft.kinds import Bits, Call, Choice, Door, Items, Nothing, Number, Part, Room, Row, Way
from roomleft.readers import Reader
from tests.lists import BIT, THREE, ErrorsCase, Listed, ascending, edition, row, some_editions
from tests.oracle import rows
from tests.strange import strange_things

BIG = Number(-7, 2 ** 60 - 8)


def first_refused(one, bits, kind):
    """The number of the first bit that a Reader refuses; None if a message comes first, or can still come."""
    reader = Reader(one, kind)
    for at, bit in enumerate(bits):
        if reader.is_whole():
            return None
        try:
            reader.push(bit)
        except BadBits as error:
            assert error.at == at
            return at
    return None


def no_most():
    return [thing for thing in strange_things() + [17, 1 << 300]
            if isinstance(thing, bool) or not isinstance(thing, int) or not 0 <= thing <= 16]


class ListsTest(ErrorsCase):
    def test_every_row_of_a_few_bits(self):
        short = [bits for size in range(1, 8) for bits in rows(size)]
        for label, one in some_editions(range(0, 400, 5)):
            for name in one.kinds:
                with self.subTest(label=label, kind=name):
                    told = {bits: first_refused(one, bits, name) for bits in short}
                    self.assertEqual({bits: is_free(one, bits, name) for bits in short},
                                     {bits: told[bits] is not None for bits in short})
                    self.assertEqual([bits for bits in short if is_least_free(one, bits, name)],
                                     [bits for bits in short if told[bits] == len(bits) - 1])

    def test_free_words_of_lists(self):
        tried = 0
        for label, one in some_editions(range(400)):
            for name in one.kinds:
                with self.subTest(label=label, kind=name):
                    listed = Listed(one, name, 12)
                    words = listed.least_free()
                    for most in range(min(max(listed.sure, 0), 16) + 1):
                        self.assertEqual(free_words(one, most, name), [word for word in words if len(word) <= most])
                    if words:
                        self.assertEqual(least_free(one, name), words[0])
                        tried += 1
                    elif least_free(one, name) is not None:
                        self.assertGreater(len(least_free(one, name)), listed.sure)
                    for bits in words:
                        self.assertIs(is_free(one, bits + "01", name), True)
                        self.assertIs(is_least_free(one, bits + "01", name), False)
        self.assertGreater(tried, 200)

    def test_first_main_fact(self):
        """A row can be put to the messages exactly if it is free."""
        for label, one in some_editions(range(0, 400, 10)):
            listed = Listed(one, one.root, 12)
            if not 2 <= listed.sure:
                continue
            for size in range(1, min(listed.sure, 5) + 1):
                for bits in rows(size):
                    apart = not any(bits.startswith(row) or row.startswith(bits) for row in listed.told.whole)
                    self.assertIs(is_free(one, bits), apart, (label, bits))

    def test_room_words_of_lists(self):
        tried = 0
        for label, one in some_editions(range(300)):
            for name, kind in one.kinds.items():
                if not isinstance(kind, Row):
                    continue
                for index in range(len(kind.parts)):
                    alone = Row(kind.parts[index:])
                    listed = Listed(Edition({**one.kinds, name: alone}, one.root, one.count), name, 11)
                    most = max(listed.sure, 0)
                    words = [word for word in listed.least_free() if len(word) <= most]
                    self.assertEqual(room_words(one, name, index, most), words, (label, name, index))
                    tried += len(words)
        self.assertGreater(tried, 300)


class FreeTest(ErrorsCase):
    def test_errors_in_their_order(self):
        one = edition(root=THREE)
        for call in (is_free, is_least_free):
            for kind in ("no", 0, True, ["root"], b"root"):
                self.raises(NoKind(), call, one, "", kind)
                self.raises(NoKind(), call, one, "11", kind)
            for thing in strange_things():
                if not isinstance(thing, str) or thing.strip("01") or thing == "":
                    self.raises(NoBits(), call, one, thing)
            self.assertIs(call(kind="root", bits="11", edition=one), True)
            self.assertIs(call(one, "11", None), True)

    def test_what_goes_on(self):
        one = edition(root=THREE, call=row(THREE, THREE))
        self.assertEqual([is_free(one, bits) for bits in ("1", "11", "110", "10", "100", "00", "0011")],
                         [False, True, True, False, False, False, False])
        self.assertEqual([is_least_free(one, bits) for bits in ("1", "11", "110", "10", "100")],
                         [False, True, False, False, False])
        self.assertEqual([is_free(one, bits, "call") for bits in ("0011", "00110", "0010", "00111111", "001")],
                         [True, True, False, True, False])
        self.assertEqual([is_least_free(one, bits, "call") for bits in ("0011", "00110", "11")], [True, False, True])

    def test_long_rows(self):
        one = edition(root=Items(THREE), whole=Items(BIT), call=row(Items(THREE), THREE))
        self.assertIs(is_free(one, "110" * 1333 + "0"), False)
        self.assertIs(is_free(one, "110" * 1332 + "111"), True)
        self.assertIs(is_least_free(one, "110" * 1332 + "111"), True)
        self.assertIs(is_least_free(one, "110" * 1332 + "1111"), False)
        self.assertIs(is_free(one, "1" * 4000, "whole"), False)
        self.assertIs(is_free(one, "111" + "0" * 3997), True)
        self.assertIs(is_free(one, "0" * 4000), False)
        self.assertIs(is_least_free(one, "110" * 1332 + "011", "call"), True)


class LeastFreeTest(ErrorsCase):
    def test_none(self):
        one = edition(root=Items(BIT), wide=Number(0, 7, 3), both=row(BIG, Items(Bits(2), 2)))
        for name in one.kinds:
            self.assertIsNone(least_free(one, name))
            self.assertEqual(free_words(one, 16, name), [])

    def test_small_ones(self):
        one = edition(
            root=THREE, one=Number(0, 4, 3), first=Choice([Way("01", "a", Nothing()), Way("1", "b", THREE)]),
            counted=Items(THREE, 2), run=Items(THREE), door=Choice([Way("0", "a", Nothing()), Door("1", "b", BIT)]),
            long=Choice([Way("0", "a", Nothing()), Door("1", "b", Bits(5))]), room=Row([Room("110", "r", None), Part("p", THREE)]))
        self.assertEqual(
            [least_free(one, name) for name in one.kinds],
            ["11", "11", "00", "0111", "111", "1000", "10", "111"])
        self.assertEqual(free_words(one, 3, "one"), ["11", "101"])
        self.raises(NoKind(), least_free, one, "no")
        self.assertEqual(least_free(kind="run", edition=one), "111")

    def test_far_inside_a_big_number(self):
        one = edition(root=Number(0, 2 ** 60 - 2, 60), odd=Number(5, 2 ** 59 + 5, 60), both=row(BIG, BIG, Call("root")))
        self.assertEqual(least_free(one), "1" * 60)
        self.assertEqual(free_words(one, 16), [])
        self.assertEqual(least_free(one, "odd"), "11")
        self.assertEqual(free_words(one, 6, "odd"), ["11", "101", "1001", "10001", "100001"])
        self.assertEqual(least_free(one, "both"), "0" * 120 + "1" * 60)

    def test_behind_several_parts(self):
        one = edition(
            root=row(Items(Call("wild")), Number(1, 6), Bits(16), BIG, Items(Bits(3), 2), Call("last")),
            last=Choice([Way("0", "a", Nothing()), Way("10", "b", Bits(1))]),
            wild=Choice([Way("00", "a", Items(Call("inner"))), Way("01", "b", Items(Bits(7))), Way("1", "c", Items(BIG))]),
            inner=Choice([Way("0", "a", Items(BIG)), Way("1", "b", BIG)]))
        self.assertEqual(least_free(one), "0" + "00" + "0" * 16 + "0" * 60 + "00" + "11")

    def test_the_nearest_of_several(self):
        five = Number(0, 4)
        one = edition(
            root=Choice([Way("0", "a", Call("near")), Way("1", "b", Call("far"))]),
            near=row(five, five, five, THREE), far=row(Bits(9), Number(0, 5, 3)),
            other=Choice([Way("0", "a", Call("far")), Way("1", "b", Call("near"))]))
        self.assertEqual(least_free(one), "0" + "00" * 3 + "11")
        self.assertEqual(least_free(one, "other"), "1" + "00" * 3 + "11")
        self.assertEqual(len(free_words(one, 9)), 27)
        self.assertEqual(free_words(one, 9)[0], least_free(one))

    def test_many_kinds(self):
        letters = "abcdefghijklmnopqrs"
        kinds = {letter: row(*[Items(Call(chr(ord(letter) + 1)))] * 8) for letter in letters}
        kinds["t"] = Number(0, 2 ** 60 - 2, 60)
        self.assertEqual(least_free(Edition(kinds, "a", 5)), "1" * 19 + "1" * 60)
        kinds = {letter: row(*[Call(chr(ord(letter) + 1))] * 8) for letter in letters}
        kinds["t"] = THREE
        one = Edition(kinds, "a", 5)
        self.assertEqual(least_free(one), "11")
        self.assertEqual(len(free_words(one, 14)), 1 + 3 + 9 + 27 + 81 + 243 + 729)
        self.raises(TooMany(2000), free_words, one, 16)


class FreeWordsTest(ErrorsCase):
    def test_bounds_of_most(self):
        one = edition(root=Items(THREE))
        self.assertEqual(free_words(one, 0), [])
        self.assertEqual(free_words(one, 3), ["111"])
        self.assertEqual(free_words(one, 6), ["111", "100111", "101111", "110111"])
        self.assertEqual(len(free_words(one, 16)), 1 + 3 + 9 + 27 + 81)
        for most in no_most():
            self.raises(BadNumber("most"), free_words, one, most)
        self.raises(NoKind(), free_words, one, 17, "no")
        self.assertEqual(free_words(kind="root", most=4, edition=one), ["111"])

    def test_2000_words_and_one_more(self):
        just = edition(root=row(Number(1, 2000), THREE))
        words = free_words(just, 16)
        self.assertEqual([len(words), words[0], words[-1]], [2000, "0" * 10 + "11", "1" * 13])
        self.assertEqual(words, ascending(words))
        self.assertEqual(len(free_words(just, 12)), 48)
        more = edition(root=row(Number(1, 2001), THREE))
        self.raises(TooMany(2000), free_words, more, 16)
        self.raises(TooMany(2000), free_words, more, 13)
        self.assertEqual(len(free_words(more, 12)), 47)
        later = edition(root=row(Bits(16), THREE))
        self.assertEqual(free_words(later, 16), [])
        self.raises(TooMany(2000), free_words, edition(root=row(Bits(14), THREE)), 16)

    def test_changed_afterwards(self):
        one = edition(root=Items(THREE), car=row(BIT, THREE), sort=Choice([Way("0", "a", Nothing())]))
        for call, arguments in ((free_words, (6,)), (room_words, ("car", 0, 8)), (way_words, ("sort", 8))):
            told = call(one, *arguments)
            kept = list(told)
            told.append("x")
            told[0] = "y"
            self.assertEqual(call(one, *arguments), kept)


class RoomWordsTest(ErrorsCase):
    def setUp(self):
        self.one = edition(
            root=Row([Part("p", BIT), Room("111", "r", None), Part("q", THREE), Part("o", Number(0, 2))]),
            sort=Choice([Way("00", "a", Nothing()), Door("01", "b", None), Way("110", "c", BIT)]), bits=Bits(2),
            call=Call("root"), run=Items(BIT), number=THREE)

    def test_indexes(self):
        told = [room_words(self.one, "root", index, 8) for index in range(4)]
        self.assertEqual(told[3], [])
        self.assertEqual(told[2], ["11"])
        self.assertEqual(told[1][:2], ["110", "11100011"])
        self.assertEqual(told[0][:2], ["0110", "1110"])
        for index in (4, -1, 8, True, False, None, "0", 10 ** 59):
            self.raises(BadNumber("index"), room_words, self.one, "root", index, 8)
        for thing in strange_things():
            if isinstance(thing, bool) or not isinstance(thing, int) or not 0 <= thing <= 3:
                self.raises(BadNumber("index"), room_words, self.one, "root", thing, 8)

    def test_rooms_ahead_and_behind(self):
        ahead = edition(root=Row([Room("11", "r", None), Part("p", THREE), Part("q", THREE)]))
        self.assertEqual(room_words(ahead, "root", 2, 8), ["11"])
        self.assertEqual(room_words(ahead, "root", 1, 4), ["11", "0011", "0111", "1011"])
        self.assertEqual(room_words(ahead, "root", 0, 4), ["0011", "0111", "1011"])

    def test_names(self):
        for name in ("sort", "bits", "call", "run", "number", "no", "", None, True, 0, b"root", ["root"], ("root",), {}):
            self.raises(NoKind(), room_words, self.one, name, 9, 17)
        for name in strange_things():
            self.raises(NoKind(), room_words, self.one, name, 0, 8)

    def test_errors_in_their_order(self):
        self.raises(BadNumber("index"), room_words, self.one, "root", 4, 17)
        for most in no_most():
            self.raises(BadNumber("most"), room_words, self.one, "root", 0, most)
        self.assertEqual(room_words(self.one, "root", 0, 0), [])
        self.assertEqual(room_words(most=4, index=2, name="root", edition=self.one), ["11"])
        wide = edition(root=row(Bits(11), THREE))
        self.assertEqual(room_words(wide, "root", 0, 12), [])
        self.raises(TooMany(2000), room_words, wide, "root", 0, 13)


class WayWordsTest(ErrorsCase):
    def test_words(self):
        one = edition(
            root=Choice([Way("0", "a", Nothing())]), whole=Choice([Way("0", "a", BIT), Door("1", "b", None)]),
            long=Choice([Way("00000000", "a", THREE), Door("1", "b", None)]),
            several=Choice([Way("010", "a", THREE), Door("0110", "b", BIT), Way("111", "c", Nothing())]))
        self.assertEqual(way_words(one, "root", 16), ["1"])
        self.assertEqual(way_words(one, "whole", 16), [])
        self.assertEqual(way_words(one, "long", 16), ["01", "001", "0001", "00001", "000001", "0000001", "00000001"])
        self.assertEqual(way_words(one, "long", 3), ["01", "001"])
        self.assertEqual(way_words(one, "several", 8), ["00", "10", "110", "0111"])
        self.assertEqual([way_words(one, "several", most) for most in (0, 1, 2)], [[], [], ["00", "10"]])

    def test_against_all_rows(self):
        for words in (["0"], ["00", "01"], ["101"], ["0", "10", "110", "1110"], ["0011", "0010", "1"],
                      ["00000001", "00000000", "11111111"]):
            one = edition(root=Choice([Way(word, "abcdef"[at], Nothing()) for at, word in enumerate(words)]))
            apart = [bits for size in range(1, 9) for bits in rows(size)
                     if not any(bits.startswith(word) or word.startswith(bits) for word in words)]
            least = [bits for bits in apart if bits[:-1] not in apart]
            for most in (0, 1, 3, 7, 8, 16):
                self.assertEqual(way_words(one, "root", most), [bits for bits in least if len(bits) <= most])

    def test_errors(self):
        one = edition(root=Choice([Way("0", "a", Nothing())]), row=row(BIT), bits=Bits(1), call=Call("root"))
        for name in ("row", "bits", "call", "no", "", None, False, 0, ["root"]):
            self.raises(NoKind(), way_words, one, name, 17)
        for name in strange_things():
            self.raises(NoKind(), way_words, one, name, 8)
        for most in no_most():
            self.raises(BadNumber("most"), way_words, one, "root", most)
        self.assertEqual(way_words(most=1, name="root", edition=one), ["1"])


if __name__ == "__main__":
    unittest.main()
