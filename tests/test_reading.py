import unittest

from roomleft.editions import Edition
from roomleft.errors import NoBits, NoKind
from roomleft.kinds import Bits, Call, Choice, Door, Items, Nothing, Number, Part, Room, Row, Way
from roomleft.reading import is_own, read, read_first
from roomleft.writing import written
from tests.oracle import Beginnings, Oracle, codes, outcome, rows
from tests.samples import sample_editions
from tests.strange import strange_things

BIT = Number(0, 1)
THREE = Number(0, 2, 2)


def is_bits(thing):
    return type(thing) is str and set(thing) <= {"0", "1"}


class ReadingTest(unittest.TestCase):
    def setUp(self):
        self.car = Edition({
            "car": Row([Part("speed", Number(0, 99, 7)), Part("sort", Call("sort"))]),
            "sort": Choice([Way("0", "van", Nothing()), Way("10", "bus", Number(1, 3))]),
        }, "car", 4)

    def told(self, edition, bits, *kind):
        return outcome(lambda: read(edition, bits, *kind))

    def test_document(self):
        self.assertEqual(written(self.car, {"speed": 5, "sort": ("bus", 2)}), "00001011010")
        self.assertEqual(read(self.car, "00001010"), {"speed": 5, "sort": ("van", None)})
        car = Row([Part("speed", Number(0, 99, 7)), Room("11", "extra", None), Part("sort", Call("sort"))])
        roomy = Edition({**self.car.kinds, "car": car}, "car", 4)
        value = read(roomy, "0000101" + "11" + "0011" + "101" + "0")
        self.assertEqual(value, {"speed": 5, "extra": (None, "101"), "sort": ("van", None)})
        self.assertEqual(list(value), ["speed", "extra", "sort"])

    def test_every_row_of_a_few_bits(self):
        for name, (edition, size) in sample_editions().items():
            oracle = Oracle(edition.kinds, edition.count)
            for kind in edition.kinds:
                longest = size + oracle.greatest_lack(edition.kinds[kind])
                told = Beginnings(oracle.of(kind, min(longest, 19)))
                for row in [row for many in range(size + 1) for row in rows(many)]:
                    with self.subTest(name=name, kind=kind, row=row):
                        expected = told.outcome(row)
                        self.assertEqual(outcome(lambda: read(edition, row, kind)), expected)
                        first = expected
                        if expected[0] == "value":
                            first = ("value", (expected[1], len(row)))
                        elif expected[0] == "left":
                            first = ("value", (told.whole[row[:expected[1]]][0], expected[1]))
                        self.assertEqual(outcome(lambda: read_first(edition, row, kind)), first)
                        own = expected[0] == "value" and told.whole[row][2]
                        self.assertIs(is_own(edition, row, kind), own)

    def test_values_come_back(self):
        for name, (edition, size) in sample_editions().items():
            for bits, value, _, own in Oracle(edition.kinds, edition.count).of(edition.root, size + 3):
                with self.subTest(name=name, bits=bits):
                    self.assertEqual(read(edition, bits), value)
                    self.assertEqual(written(edition, value), bits)
                    self.assertEqual(written(edition, read(edition, bits)), bits)
                    self.assertIs(is_own(edition, bits), own)

    def test_values_belong_to_the_caller(self):
        edition = Edition({"a": Row([Part("p", Items(Call("b"))), Part("q", Call("b"))]), "b": Row([
            Part("r", Items(BIT)), Room("11", "s", Call("c")), Part("t", THREE)]), "c": Row([Part("u", Items(BIT, 1))])}, "a", 4)
        value = {"p": [{"r": [1], "s": ({"u": [1]}, "0"), "t": 2}], "q": {"r": [], "t": 0}}
        bits = written(edition, value)
        first = read(edition, bits)
        self.assertEqual(first, value)
        first["p"][0]["r"].append(7)
        first["p"][0]["s"][0]["u"].clear()
        first["q"].clear()
        first["p"].append(first)
        self.assertEqual(read(edition, bits), value)

    def test_the_type_of_each_thing(self):
        edition = Edition({"a": Choice([Way("0", "w", Items(BIT)), Door("1", "d", Call("b"))]), "b": Row([
            Room("11", "r", None), Part("p", THREE)])}, "a", 3)
        self.assertEqual(read(edition, "1" + "111" + "11" + "000" + "10"), ("d", {"r": (None, ""), "p": 2}, ""))
        # With a bit in the room's body there would be none left for the part.
        self.assertEqual(outcome(lambda: read(edition, "1" + "111" + "11" + "001")), ("bad", 8))
        edition = Edition(edition.kinds, "a", 2)
        value, used = read_first(edition, "1" + "11" + "10" + "1" + "0")
        self.assertEqual((value, used), (("d", {"p": 2}, "1"), 6))
        self.assertIs(type(value), tuple)
        self.assertEqual(read(edition, "0" + "11" + "10" + "0"), ("w", [1, 0]))
        self.assertIs(type(read(edition, "00")[1]), list)
        self.assertEqual(read(edition, "11" + "01" + "1" + "10", "b"), {"r": (None, "1"), "p": 2})

    def test_errors_and_their_fields(self):
        self.assertEqual(self.told(self.car, ""), ("few", 8))
        self.assertEqual(self.told(self.car, "0000101"), ("few", 1))
        self.assertEqual(self.told(self.car, "00001011"), ("few", 2))
        self.assertEqual(self.told(self.car, "11"), ("few", 6))
        self.assertEqual(self.told(self.car, "111"), ("bad", 2))
        self.assertEqual(self.told(self.car, "1111010"), ("bad", 2))
        self.assertEqual(self.told(self.car, "1100100"), ("bad", 4))
        self.assertEqual(self.told(self.car, "000010111"), ("bad", 8))
        self.assertEqual(self.told(self.car, "000010100"), ("left", 8))
        self.assertEqual(self.told(self.car, "00001010" + "1" * 50), ("left", 8))

    def test_no_bits(self):
        for thing in strange_things():
            if not is_bits(thing):
                for call in (read, read_first):
                    with self.assertRaises(NoBits):
                        call(self.car, thing)
                    with self.assertRaises(NoBits):
                        call(self.car, bits=thing, kind="sort")
                self.assertIs(is_own(self.car, thing), False)
            else:
                self.assertIn(self.told(self.car, thing)[0], ("few", "bad"))

    def test_no_kind(self):
        for thing in strange_things() + ["CAR", "cars", "speed"]:
            if thing is not None:
                for call in (read, read_first, is_own):
                    for bits in ("00001010", 5, "x"):
                        with self.assertRaises(NoKind):
                            call(self.car, bits, thing)
                        with self.assertRaises(NoKind):
                            call(edition=self.car, bits=bits, kind=thing)

    def test_kinds_by_name_and_by_none(self):
        self.assertEqual(read(self.car, "00001010", None), read(self.car, "00001010", "car"))
        self.assertEqual(read(self.car, "1010", "sort"), ("bus", 2))
        self.assertEqual(read(self.car, bits="0", kind="sort"), ("van", None))
        self.assertEqual(read_first(self.car, bits="0111", kind="sort"), (("van", None), 1))
        self.assertTrue(is_own(edition=self.car, bits="0", kind="sort"))


class NumbersTest(unittest.TestCase):
    def number(self, low, many, width=None):
        return Edition({"a": Number(low, low + many - 1, width)}, "a", 1)

    def integers(self, low, many, bar):
        """The first and the last integers, and those at the bar."""
        told = {0, 1, many - 2, many - 1, bar - 2, bar - 1, bar, bar + 1, many // 2, many // 3}
        return [low + at for at in sorted(told) if 0 <= at < many]

    def check_code(self, edition, integer, bits):
        self.assertEqual(written(edition, integer), bits)
        self.assertEqual(read(edition, bits), integer)
        for size in range(len(bits)):
            self.assertEqual(outcome(lambda: read(edition, bits[:size]))[0], "few")
        for more in ("0", "1", "10"):
            self.assertEqual(outcome(lambda: read(edition, bits + more)), ("left", len(bits)))

    def test_all_codes_of_small_numbers(self):
        for many in range(2, 40):
            for low in (0, -5, 10 ** 59):
                kind = Number(low, low + many - 1)
                edition = self.number(low, many)
                for integer, bits, _ in codes(kind):
                    self.check_code(edition, integer, bits)

    def test_tight_numbers(self):
        sizes = [2 ** b + more for b in range(1, 61) for more in (-1, 0, 1, 5, 2 ** b // 2)]
        for many in sizes:
            if 2 <= many <= 2 ** 60:
                b = many.bit_length() - 1
                u = 2 ** (b + 1) - many
                edition = self.number(-7, many)
                for integer in self.integers(-7, many, u):
                    at = integer + 7
                    bits = format(at, "b").zfill(b) if at < u else format(at + u, "b").zfill(b + 1)
                    self.check_code(edition, integer, bits)

    def test_least_lacks_of_tight_numbers(self):
        edition = self.number(0, 2 ** 59 + 1)
        self.assertEqual(outcome(lambda: read(edition, "")), ("few", 59))
        self.assertEqual(outcome(lambda: read(edition, "1" * 10)), ("few", 49))
        self.assertEqual(outcome(lambda: read(edition, "1" * 58)), ("few", 1))
        self.assertEqual(outcome(lambda: read(edition, "1" * 59)), ("few", 1))
        self.assertEqual(read(edition, "1" * 60), 2 ** 59)
        self.assertEqual(read(edition, "1" * 59 + "0"), 2 ** 59 - 1)
        edition = self.number(0, 2 ** 60 - 1)
        self.assertEqual(outcome(lambda: read(edition, "")), ("few", 59))
        self.assertEqual(outcome(lambda: read(edition, "0")), ("few", 58))
        self.assertEqual(outcome(lambda: read(edition, "1")), ("few", 59))
        self.assertEqual(read(edition, "0" * 59), 0)
        self.assertEqual(read(edition, "0" * 58 + "10"), 1)

    def test_numbers_with_a_width(self):
        for width in (1, 2, 3, 8, 31, 59, 60):
            for many in (2, 3, 2 ** (width - 1), 2 ** (width - 1) + 1, 2 ** width - 1, 2 ** width):
                if 2 <= many <= 2 ** width:
                    edition = self.number(11, many, width)
                    for integer in self.integers(11, many, many):
                        self.check_code(edition, integer, format(integer - 11, "b").zfill(width))
                    if many < 2 ** width:
                        self.refused_behind(edition, many, width)

    def refused_behind(self, edition, many, width):
        """The first row that is no code is refused at its last bit that is unlike the last code."""
        for wrong in (many, 2 ** width - 1):
            row = format(wrong, "b").zfill(width)
            at = next(at for at in range(width) if int(row[:at + 1], 2) > (many - 1) >> (width - at - 1))
            self.assertEqual(outcome(lambda: read(edition, row)), ("bad", at))
            self.assertEqual(outcome(lambda: read(edition, row + "0101")), ("bad", at))
            self.assertEqual(outcome(lambda: read(edition, row[:at])), ("few", width - at))

    def test_great_integers(self):
        low = -(10 ** 60) + 1
        edition = Edition({"a": Items(Number(low, low + 2 ** 60 - 1))}, "a", 1)
        value = [low, low + 2 ** 60 - 1, low + 2 ** 59]
        self.assertEqual(written(edition, value), "1" + "0" * 60 + "1" + "1" * 60 + "11" + "0" * 59 + "0")
        self.assertEqual(read(edition, written(edition, value)), value)


class BodiesTest(unittest.TestCase):
    def edition(self, kind, count=3):
        return Edition({
            "a": Choice([Way("0", "w", Nothing()), Door("1", "d", kind)]),
            "b": Row([Room("11", "r", None if isinstance(kind, Nothing) else kind), Part("p", THREE)]),
        }, "a", count)

    def test_rests(self):
        for kind, value, bits in ((None, None, ""), (Nothing(), None, ""), (BIT, 1, "1"), (Bits(5), "01011", "01011")):
            edition = self.edition(kind)
            for size in range(8 - len(bits)):
                for rest in ("0" * size, "1" * size, ("01" * 4)[:size]):
                    body = format(len(bits) + size, "03b") + bits + rest
                    self.assertEqual(read(edition, "1" + body), ("d", value, rest))
                    self.assertEqual(written(edition, ("d", value, rest)), "1" + body)
                    self.assertIs(is_own(edition, "1" + body), kind is not None and rest == "")
                    self.assertEqual(read(edition, "11" + body + "01", "b"), {"r": (value, rest), "p": 1})

    def test_a_count_that_is_too_small(self):
        edition = self.edition(Bits(5))
        self.assertEqual(outcome(lambda: read(edition, "10")), ("bad", 1))
        self.assertEqual(outcome(lambda: read(edition, "1100")), ("bad", 3))
        self.assertEqual(outcome(lambda: read(edition, "1")), ("few", 8))
        self.assertEqual(outcome(lambda: read(edition, "11")), ("few", 7))
        self.assertEqual(outcome(lambda: read(edition, "111")), ("few", 7))
        self.assertEqual(outcome(lambda: read(edition, "110")), ("few", 6))
        self.assertEqual(outcome(lambda: read(edition, "110", "b")), ("bad", 2))
        self.assertEqual(outcome(lambda: read(edition, "11", "b")), ("few", 10))

    def test_a_message_must_end_within_its_body(self):
        edition = self.edition(Number(0, 2))
        self.assertEqual(read(edition, "1" + "001" + "0"), ("d", 0, ""))
        self.assertEqual(outcome(lambda: read(edition, "1" + "001" + "1")), ("bad", 4))
        self.assertEqual(read(edition, "1" + "010" + "11"), ("d", 2, ""))
        self.assertEqual(read(edition, "1" + "010" + "01"), ("d", 0, "1"))
        self.assertEqual(outcome(lambda: read(edition, "1" + "010" + "1")), ("few", 1))

    def test_the_greatest_body(self):
        edition = self.edition(Bits(1), 5)
        bits = "1" + "11111" + "0" * 31
        self.assertEqual(read(edition, bits), ("d", "0", "0" * 30))
        self.assertEqual(outcome(lambda: read(edition, bits + "0")), ("left", 37))
        self.assertEqual(outcome(lambda: read(edition, bits[:-1])), ("few", 1))

    def test_long_rows(self):
        edition = Edition({"a": Items(Call("b")), "b": Row([
            Room("11", "r", Call("c")), Part("p", THREE)]), "c": Row([Part("q", Items(Bits(3), 1)), Part("s", BIT)])}, "a", 4)
        value = [{"r": ({"q": ["101"], "s": 1}, "0011"), "p": 2}, {"p": 1}] * 150
        bits = written(edition, value)
        self.assertGreater(len(bits), 3000)
        self.assertEqual(read(edition, bits), value)
        self.assertEqual(outcome(lambda: read(edition, bits[:-1])), ("few", 1))
        self.assertEqual(outcome(lambda: read(edition, bits[:-1] + "1" + "11" + "0000")), ("bad", len(bits) + 4))

    def test_messages_that_are_longer_than_what_can_be_read_at_once(self):
        kinds = {"abcdefghijklmnopqrst"[at]: Row([Part(name, Call("abcdefghijklmnopqrst"[at + 1])) for name in "abcdefgh"])
                 for at in range(19)}
        edition = Edition({**kinds, "t": THREE}, "a", 1)
        self.assertEqual(outcome(lambda: read(edition, "")), ("few", 2 * 8 ** 19))
        self.assertEqual(outcome(lambda: read(edition, "01" * 2000)), ("few", 2 * 8 ** 19 - 4000))
        self.assertEqual(outcome(lambda: read(edition, "01" * 1999 + "11")), ("bad", 3999))


if __name__ == "__main__":
    unittest.main()
