import unittest

from roomleft.errors import BadBits, BadNumber, Left, NoBits, NoKind, NoOwn, TooFew
from roomleft.kinds import Bits, Call, Choice, Door, Items, Nothing, Number, Part, Room, Row, Way
from roomleft.numbering import message_at, number_of
from roomleft.sizes import greatest_size, how_many
from tests.lists import BIT, ErrorsCase, Listed, edition, row, some_editions
from tests.oracle import rows
from tests.strange import strange_things

RUN = Items(BIT)


class ListsTest(ErrorsCase):
    def test_there_and_back(self):
        tried = 0
        for label, one in some_editions(range(250)):
            for name in one.kinds:
                with self.subTest(label=label, kind=name):
                    own = Listed(one, name, 10).own
                    for number, bits in enumerate(own[:250]):
                        self.assertEqual(message_at(one, number, name), bits)
                        self.assertEqual(number_of(one, bits, name), number)
                        tried += 1
                    greatest = greatest_size(one, name)
                    if greatest is not None and greatest <= 10:
                        self.raises(BadNumber("number"), message_at, one, len(own), name)
        self.assertGreater(tried, 3000)


class NumberingTest(ErrorsCase):
    def test_last_number_of_200_bits(self):
        one = edition(root=Items(Number(0, 2)), odd=RUN)
        for name, longest in (("root", 200), ("odd", 199)):
            last = sum(how_many(one, length, name) for length in range(201)) - 1
            bits = message_at(one, last, name)
            self.assertEqual(len(bits), longest)
            self.assertEqual(number_of(one, bits, name), last)
            self.raises(BadNumber("number"), message_at, one, last + 1, name)
        self.assertEqual(bits, "11" * 99 + "0")

    def test_more_than_200_bits(self):
        one = edition(root=RUN, whole=row(*[Items(Bits(16), 3)] * 2, *[Bits(16)] * 6))
        self.assertEqual(number_of(one, "10" * 99 + "0"), 2 ** 99 - 1)
        self.raises(BadNumber("length"), number_of, one, "10" * 100 + "0")
        self.raises(BadNumber("length"), number_of, one, "10" * 1999 + "0")
        bits = "001" + "01" * 8 + "010" + "1" * 32 + "0" * 96
        self.assertEqual(message_at(one, number_of(one, bits, "whole"), "whole"), bits)
        self.raises(BadNumber("length"), number_of, one, "111" + "0" * 112 + "000" + "0" * 96, "whole")

    def test_order_is_that_of_the_bits(self):
        one = edition(root=Choice([Way("1", "a", Bits(1)), Way("01", "b", Nothing()), Way("000", "c", RUN)]))
        told = [message_at(one, number) for number in range(12)]
        self.assertEqual(told[:4], ["01", "10", "11", "0000"])
        self.assertEqual(told, sorted(told, key=lambda bits: (len(bits), bits)))

    def test_numbers_of_60_digits(self):
        one = edition(
            root=row(*[Bits(16)] * 7, Call("more")), more=row(*[Bits(16)] * 5, Bits(8)),
            big=row(*[Number(-3, 2 ** 60 - 4)] * 3), run=Items(Number(0, 2)))
        for number in (10 ** 59, 10 ** 60 - 1):
            bits = message_at(one, number)
            self.assertEqual([len(bits), int(bits, 2)], [200, number])
            self.assertEqual(number_of(one, bits), number)
        bits = message_at(one, 10 ** 35 + 7, "run")
        self.assertEqual(number_of(one, bits, "run"), 10 ** 35 + 7)
        self.raises(BadNumber("number"), message_at, one, 10 ** 59, "run")
        self.assertEqual(message_at(one, 2 ** 180 - 1, "big"), "1" * 180)
        self.raises(BadNumber("number"), message_at, one, 2 ** 180, "big")
        self.assertEqual(message_at(one, 5, "big"), "0" * 177 + "101")

    def test_what_is_no_number(self):
        one = edition(root=RUN)
        for number in (-1, -(10 ** 59), True, False, None, "0", b"0", [], (1,), 1 << 400):
            self.raises(BadNumber("number"), message_at, one, number)
        for thing in strange_things():
            if isinstance(thing, bool) or not isinstance(thing, int) or thing < 0:
                self.raises(BadNumber("number"), message_at, one, thing)
        for kind in ("other", 0, None.__class__, ["root"], True):
            self.raises(NoKind(), message_at, one, -1, kind)
            self.raises(NoKind(), message_at, one, 0, kind)
        self.assertEqual(message_at(kind="root", number=1, edition=one), "100")

    def test_errors_of_number_of_in_their_order(self):
        one = edition(
            root=Choice([Way("00", "a", Nothing()), Door("01", "b", None), Door("10", "c", BIT), Door("110", "d", Nothing())]),
            rooms=Row([Room("111", "r", None), Room("110", "s", BIT), Part("p", Number(0, 5, 3))]))
        self.raises(NoKind(), number_of, one, 7, "other")
        self.raises(NoKind(), number_of, one, "0", 0)
        for thing in strange_things():
            if not isinstance(thing, str) or thing.strip("01") != "":
                self.raises(NoBits(), number_of, one, thing)
        self.raises(BadBits(2), number_of, one, "111")
        self.raises(BadBits(4), number_of, one, "10000")
        self.raises(TooFew(2), number_of, one, "")
        self.raises(TooFew(1), number_of, one, "0")
        self.raises(TooFew(3), number_of, one, "10011")
        self.raises(Left(2), number_of, one, "000")
        for bits in ("01000", "01111" + "0" * 7, "1001000", "1001001", "1100010"):
            self.raises(NoOwn(), number_of, one, bits)
        self.assertEqual([number_of(one, bits) for bits in ("00", "100010", "100011", "110000")], [0, 1, 2, 3])
        for bits in ("111000000", "1110011000", "110" + "010" + "10" + "000"):
            self.raises(NoOwn(), number_of, one, bits, "rooms")
        self.assertEqual(number_of(one, "110" + "001" + "1" + "101", "rooms"), 6 + 11)
        self.assertEqual(number_of(kind="rooms", bits="101", edition=one), 5)

    def test_own_goes_ahead_of_the_length(self):
        one = edition(root=Row([Part("p", RUN), Room("11", "r", None), Part("q", Number(0, 2, 2))]))
        run = "10" * 150 + "0"
        self.raises(NoOwn(), number_of, one, run + "11" + "000" + "01")
        self.raises(BadNumber("length"), number_of, one, run + "01")

    def test_all_rows_of_a_few_bits(self):
        one = edition(root=Row([Part("p", Items(BIT, 2)), Part("q", Number(0, 2))]))
        told = [number_of(one, bits) for size in range(10) for bits in rows(size) if is_message(one, bits)]
        self.assertEqual(told, list(range(len(told))))
        self.assertEqual(len(told), (1 + 2 + 4 + 8) * 3)


def is_message(one, bits):
    try:
        number_of(one, bits)
    except (BadBits, TooFew, Left):
        return False
    return True


if __name__ == "__main__":
    unittest.main()
