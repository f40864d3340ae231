import unittest

from roomleft.editions import Edition
from roomleft.errors import BadNumber, NoKind
from roomleft.kinds import Bits, Call, Choice, Door, Items, Nothing, Number, Part, Room, Row, Way
from roomleft.sizes import greatest_size, how_many, least_size
from tests.lists import BIT, ErrorsCase, Listed, edition, row, some_editions
from tests.strange import strange_things

BIG = Number(-7, 2 ** 60 - 8)


class ListsTest(unittest.TestCase):
    def test_all_lengths_of_small_editions(self):
        limit = 11
        ended = 0
        for label, one in some_editions(range(400)):
            for name in one.kinds:
                with self.subTest(label=label, kind=name):
                    own = Listed(one, name, limit).own
                    many = [how_many(one, length, name) for length in range(limit + 1)]
                    self.assertEqual(many, [sum(len(bits) == length for bits in own) for length in range(limit + 1)])
                    if own:
                        self.assertEqual(least_size(one, name), len(own[0]))
                    else:
                        self.assertGreater(least_size(one, name), limit)
                    greatest = greatest_size(one, name)
                    if greatest is not None and greatest <= limit:
                        self.assertEqual(greatest, len(own[-1]))
                        ended += 1
                    else:
                        self.assertNotEqual(sum(how_many(one, length, name) for length in range(200 + 1)), len(own))
        self.assertGreater(ended, 300)

    def test_all_lengths_add_up(self):
        one = edition(root=row(Items(BIT, 3), Number(0, 4), Items(Number(0, 2), 2), Number(5, 9, 3)))
        self.assertEqual(sum(how_many(one, length) for length in range(201)), 255 * 5 * (1 + 3 + 9 + 27) * 5)


class SizesTest(ErrorsCase):
    def test_bounds_of_length(self):
        one = edition(root=Bits(1), longer=row(*[Bits(16)] * 8), items=Items(Bits(1)), nested=row(*[Call("longer")] * 2))
        self.assertEqual([how_many(one, length) for length in (0, 1, 2, 200)], [0, 2, 0, 0])
        self.assertEqual([how_many(one, length, "longer") for length in (0, 127, 128, 129)], [0, 0, 2 ** 128, 0])
        self.assertEqual([how_many(one, length, "items") for length in (0, 1, 2, 3, 199, 200)], [0, 1, 0, 2, 2 ** 99, 0])
        self.assertEqual([how_many(one, 200, "nested"), least_size(one, "nested"), greatest_size(one, "nested")],
                         [0, 256, 256])
        for length in (-1, 201, 10 ** 59, True, False, None, "1", 1 << 300):
            self.raises(BadNumber("length"), how_many, one, length)
        for thing in strange_things():
            if not (isinstance(thing, int) and not isinstance(thing, bool) and 0 <= thing <= 200):
                self.raises(BadNumber("length"), how_many, one, thing)

    def test_200_bits(self):
        self.assertEqual(how_many(edition(root=row(*[Bits(16)] * 7, Call("end")), end=row(*[Bits(11)] * 8)), 200), 2 ** 200)
        self.assertEqual(how_many(edition(root=Items(Bits(7), 2), end=Bits(1)), 23), 2 ** 21)
        self.assertEqual(how_many(edition(root=Items(Call("end")), end=Choice([Way("0", "a", Nothing())])), 199), 1)
        self.assertEqual(how_many(edition(root=Items(Call("end")), end=Choice([Way("0", "a", Nothing())])), 200), 0)

    def test_no_kind_goes_ahead(self):
        one = edition(root=BIT)
        for kind in ("other", "", 0, True, b"root", ["root"], ("root",), {"root": 1}, "Root"):
            self.raises(NoKind(), how_many, one, 201, kind)
            self.raises(NoKind(), how_many, one, 1, kind)
            self.raises(NoKind(), least_size, one, kind)
            self.raises(NoKind(), greatest_size, one, kind)

    def test_arguments_by_name(self):
        one = edition(root=BIT, other=Bits(2))
        self.assertEqual(how_many(kind="other", length=2, edition=one), 4)
        self.assertEqual(least_size(kind="other", edition=one), 2)
        self.assertEqual(greatest_size(edition=one, kind="other"), 2)
        self.assertEqual([least_size(one, None), greatest_size(one, "root"), how_many(one, 1, None)], [1, 1, 2])

    def test_big_numbers(self):
        one = edition(root=BIG, wide=Number(5, 2 ** 59 + 5, 60), uneven=Number(1, 2 ** 59 + 2 ** 58 + 3), both=row(
            Call("root"), Call("uneven"), Call("wide")))
        self.assertEqual([how_many(one, 60), how_many(one, 59), least_size(one), greatest_size(one)], [2 ** 60, 0, 60, 60])
        self.assertEqual(how_many(one, 60, "wide"), 2 ** 59 + 1)
        short = 2 ** 60 - (2 ** 59 + 2 ** 58 + 3)
        self.assertEqual([how_many(one, 59, "uneven"), how_many(one, 60, "uneven")], [short, 2 * (2 ** 59 - short)])
        self.assertEqual(how_many(one, 179, "both"), 2 ** 60 * (2 ** 59 + 1) * short)
        self.assertEqual([least_size(one, "both"), greatest_size(one, "both")], [179, 180])

    def test_no_greatest_size(self):
        one = edition(
            root=Items(BIT), called=Call("root"), way=Choice([Way("0", "a", Nothing()), Way("1", "b", Call("root"))]),
            part=row(BIT, Items(BIT)), counted=Items(Call("root"), 1), wide=Items(BIT, 3), unknown=Choice([
                Way("0", "a", Nothing()), Door("1", "b", None)]))
        for name in ("root", "called", "way", "part", "counted"):
            self.assertIsNone(greatest_size(one, name))
        self.assertEqual(greatest_size(one, "wide"), 10)
        self.assertEqual(greatest_size(one, "unknown"), 1)

    def test_doors_and_rooms(self):
        one = edition(
            root=Choice([Way("00", "a", Nothing()), Door("01", "b", Nothing()), Door("1", "c", Bits(7))]),
            rooms=Row([Room("11", "r", Number(0, 2)), Room("10", "s", None), Part("p", Number(0, 1, 2))]),
            calls=Row([Room("11000", "t", Number(0, 1)), Part("q", Call("rooms"))]),
            inside=Choice([Way("0", "a", Nothing()), Door("1", "b", Call("shut"))]),
            shut=Choice([Way("0", "a", Nothing()), Door("10", "b", None), Door("11", "c", BIT)]))
        self.assertEqual([how_many(one, length) for length in range(13)], [0, 0, 1, 0, 0, 1, 0, 0, 0, 0, 0, 128, 0])
        self.assertEqual([least_size(one), greatest_size(one)], [2, 11])
        self.assertEqual([how_many(one, length, "rooms") for length in range(2, 12)], [2, 0, 0, 0, 0, 0, 2, 4, 0, 0])
        self.assertEqual([least_size(one, "rooms"), greatest_size(one, "rooms")], [2, 9])
        self.assertEqual([how_many(one, length, "calls") for length in (2, 8, 9, 11, 17, 18)], [2, 2, 4, 4, 4, 8])
        self.assertEqual([least_size(one, "calls"), greatest_size(one, "calls")], [2, 18])
        self.assertEqual([how_many(one, length, "inside") for length in range(1, 12)], [1, 0, 0, 0, 1, 0, 0, 0, 0, 2, 0])

    def test_many_kinds(self):
        kinds = {letter: row(*[Call(chr(ord(letter) + 1))] * 8) for letter in "abcdefghijklmnopqrs"}
        kinds["t"] = Number(0, 2)
        one = Edition(kinds, "a", 5)
        self.assertEqual([least_size(one), greatest_size(one), how_many(one, 200)], [8 ** 19, 2 * 8 ** 19, 0])
        self.assertEqual([least_size(one, "r"), how_many(one, 64, "r"), how_many(one, 128, "r")], [64, 1, 2 ** 64])


if __name__ == "__main__":
    unittest.main()
