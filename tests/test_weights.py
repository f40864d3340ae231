import unittest
from fractions import Fraction

from roomleft.editions import Edition
from roomleft.errors import NoKind
from roomleft.free import least_free
from roomleft.kinds import Bits, Call, Choice, Door, Items, Nothing, Number, Part, Room, Row, Way
from roomleft.weights import is_complete, own_weight, tossed, weight
from tests.lists import BIT, THREE, ErrorsCase, Listed, edition, row, some_editions
from tests.oracle import Oracle

BIG = Number(-7, 2 ** 60 - 8)


def half(power):
    return Fraction(1, 2 ** power)


class Rules:
    """The rules of the facts about weights, word for word; the bodies of known kinds by lists of their messages."""

    def __init__(self, one, is_own=False):
        self.kinds = one.kinds
        self.count = one.count
        self.is_own = is_own
        self.oracle = Oracle(one.kinds, one.count)

    def of(self, kind):
        if isinstance(kind, (Nothing, Bits)):
            return Fraction(1)
        if isinstance(kind, Number):
            return Fraction(1) if kind.width is None else (kind.high - kind.low + 1) * half(kind.width)
        if isinstance(kind, Call):
            return self.of(self.kinds[kind.name])
        if isinstance(kind, Items):
            item = self.of(kind.item)
            if kind.width is None:
                return 1 / (2 - item)
            return half(kind.width) * sum(item ** power for power in range(2 ** kind.width))
        if isinstance(kind, Choice):
            return sum(half(len(way.word)) * (self.body(way.kind) if isinstance(way, Door) else self.of(way.kind))
                       for way in kind.ways)
        return self.row(kind.parts)

    def row(self, parts):
        if not parts:
            return Fraction(1)
        part = parts[0]
        if isinstance(part, Room):
            return self.row(parts[1:]) * (1 + half(len(part.word)) * self.body(part.kind))
        return self.of(part.kind) * self.row(parts[1:])

    def body(self, kind):
        most = 2 ** self.count - 1
        if kind is None:
            return Fraction(0 if self.is_own else 1)
        if self.is_own:
            messages = self.oracle.messages(kind, most)
            return half(self.count) * sum(half(len(bits)) for bits, _, _, own in messages if own)
        if isinstance(kind, Nothing):
            return Fraction(1)
        return half(self.count) * sum(
            half(len(bits)) for n in range(most + 1) for bits, _, _, _ in self.oracle.messages(kind, n))


def pair(fraction):
    return fraction.numerator, fraction.denominator


class ListsTest(unittest.TestCase):
    def test_rules_and_lists(self):
        whole = 0
        for label, one in some_editions(range(400)):
            if one.count == 3:
                continue
            for name in one.kinds:
                with self.subTest(label=label, kind=name):
                    self.assertEqual(weight(one, name), pair(Rules(one).of(one.kinds[name])))
                    self.assertEqual(own_weight(one, name), pair(Rules(one, True).of(one.kinds[name])))
                    self.compare(one, name)
                    whole += is_complete(one, name)
        self.assertGreater(whole, 80)

    def compare(self, one, name):
        """With the sums over all messages up to a length, and over all beginnings."""
        listed = Listed(one, name, 12)
        told = Fraction(*weight(one, name))
        chance, mean = [Fraction(*part) for part in tossed(one, name)]
        self.assertEqual(chance, 1 - told)
        self.assertIs(is_complete(one, name), told == 1)
        self.assertIs(is_complete(one, name), least_free(one, name) is None)
        total = sum(half(len(bits)) for bits, _, _, _ in listed.messages)
        if listed.sure < 0:
            return
        live = [len(listed.live(size)) for size in range(listed.sure + 1)]
        tosses = sum(many * half(size) for size, many in enumerate(live))
        if live[-1] == 0:
            self.assertEqual(told, total)
            self.assertEqual(Fraction(*own_weight(one, name)), sum(half(len(bits)) for bits in listed.own))
            self.assertEqual(mean, tosses)
        else:
            self.assertLessEqual(total, told)
            self.assertLessEqual(tosses, mean)
        refused = sum(half(len(word)) for word in listed.least_free())
        self.assertLessEqual(refused, chance)
        if live[-1] == 0:
            self.assertEqual(refused, chance)


class WeightTest(ErrorsCase):
    def test_simple_kinds(self):
        one = edition(
            root=THREE, tight=Number(-1, 9), bits=Bits(16), big=BIG, wide=Number(0, 2 ** 59, 60),
            run=Items(THREE), counted=Items(THREE, 2), call=Call("run"), two=Number(4, 5, 60))
        told = {name: weight(one, name) for name in one.kinds}
        self.assertEqual(told, {
            "root": (3, 4), "tight": (1, 1), "bits": (1, 1), "big": (1, 1), "wide": (2 ** 59 + 1, 2 ** 60), "run": (4, 5),
            "counted": (175, 256), "call": (4, 5), "two": (1, 2 ** 59)})
        self.assertEqual(weight(one), (3, 4))
        self.assertEqual({name: own_weight(one, name) for name in one.kinds}, told)
        for part in weight(one) + own_weight(one):
            self.assertIs(type(part), int)
        self.assertIs(type(weight(one)), tuple)

    def test_bodies(self):
        one = edition(
            count=2,
            root=Choice([Way("0", "a", Nothing()), Door("1", "b", None)]),
            empty=Choice([Way("0", "a", Nothing()), Door("1", "b", Nothing())]),
            known=Choice([Way("0", "a", Nothing()), Door("1", "b", Bits(2))]),
            three=Choice([Way("0", "a", Nothing()), Door("1", "b", THREE)]),
            uneven=Choice([Way("0", "a", Nothing()), Door("1", "b", Number(0, 2))]),
            long=Choice([Way("0", "a", Nothing()), Door("1", "b", Call("empty"))]))
        self.assertEqual(
            [weight(one, name) for name in ("root", "empty", "known", "three", "uneven")],
            [(1, 1), (1, 1), (3, 4), (11, 16), (13, 16)])
        self.assertEqual(
            [own_weight(one, name) for name in ("root", "empty", "known", "three", "uneven")],
            [(1, 2), (5, 8), (5, 8), (19, 32), (5, 8)])
        # Of the called kind "0" fits into each body but the empty one, "100" and no other into that of 3 bits.
        self.assertEqual(weight(one, "long"), pair(half(1) + half(3) * (half(1) + half(1) + half(1) + half(3))))

    def test_rooms(self):
        one = edition(
            root=Row([Room("11", "r", None), Part("p", THREE)]),
            known=Row([Room("11", "r", Bits(2)), Part("p", THREE)]),
            several=Row([Room("110", "r", None), Room("1110", "s", BIT), Room("1111", "t", None), Part("p", THREE)]),
            called=Row([Part("p", Call("root")), Room("11", "r", None), Part("q", THREE)]))
        body = half(3) * 6 * 1
        self.assertEqual(weight(one), pair(Fraction(3, 4) * Fraction(5, 4)))
        self.assertEqual(own_weight(one), (3, 4))
        self.assertEqual(weight(one, "known"), pair(Fraction(3, 4) * (1 + half(2) * body)))
        self.assertEqual(own_weight(one, "known"), pair(Fraction(3, 4) * (1 + half(2) * half(3))))
        known = half(3) * 7
        self.assertEqual(
            weight(one, "several"),
            pair(Fraction(3, 4) * (1 + half(4)) * (1 + half(4) * known) * (1 + half(3))))
        self.assertEqual(weight(one, "called"), pair(Fraction(15, 16) ** 2))
        self.assertEqual(own_weight(one, "called"), (9, 16))

    def test_errors_and_names(self):
        one = edition(root=BIT, other=THREE)
        for call in (weight, own_weight, is_complete, tossed):
            for kind in ("no", "", 0, False, b"root", ["root"], {}, ("root",)):
                self.raises(NoKind(), call, one, kind)
            self.assertEqual(call(one), call(edition=one, kind="root"))
            self.assertEqual(call(kind="other", edition=one), call(one, "other"))
            self.assertNotEqual(call(one, "other"), call(one, None))

    def test_1000_digits(self):
        kinds = {name: row(*[Call(later)] * 2) for name, later in zip("abcdefg", "bcdefgh")}
        kinds["h"] = row(*[Number(0, 2 ** 12, 13)] * 2)
        one = Edition(kinds, "a", 1)
        self.assertEqual(weight(one), ((2 ** 12 + 1) ** 256, 2 ** (13 * 256)))
        chance, mean = tossed(one)
        self.assertEqual(Fraction(*chance), 1 - Fraction(*weight(one)))
        inner = sum(min(1, -(-(2 ** 12 + 1) // 2 ** (13 - size)) * half(size)) for size in range(13))
        share = Fraction(2 ** 12 + 1, 2 ** 13)
        self.assertEqual(Fraction(*mean), inner * (1 - share ** 256) / (1 - share))


class CompleteTest(ErrorsCase):
    def test_nowhere_refused(self):
        every = Choice([Way("0", "a", Nothing()), Way("10", "b", Items(BIT)), Door("110", "c", None),
                        Door("111", "d", Nothing())])
        one = edition(root=row(Items(Call("every")), Items(Call("every"), 3), BIG, Bits(16)), every=every,
                      wide=Number(0, 7, 3), call=Call("root"), huge=Number(5, 2 ** 60 + 4, 60))
        for name in one.kinds:
            self.assertIs(is_complete(one, name), True)
            self.assertEqual(weight(one, name), (1, 1))
            self.assertIsNone(least_free(one, name))
            self.assertEqual(tossed(one, name)[0], (0, 1))

    def test_refused_somewhere(self):
        deep = {name: row(BIG, Call(later)) for name, later in zip("abcdefgh", "bcdefghi")}
        for last in (
            Number(0, 2 ** 60 - 2, 60), Number(0, 1, 2), Choice([Way("0", "a", Nothing())]),
            Choice([Way("0", "a", Nothing()), Way("10", "b", BIT)]),
            Choice([Way("0", "a", Nothing()), Door("1", "b", BIT)]),
            Choice([Way("0", "a", Nothing()), Door("1", "b", Bits(16))]),
            Row([Room("11", "r", None), Part("p", THREE)]), Items(THREE), Items(THREE, 1),
        ):
            one = Edition({**deep, "i": last}, "a", 5)
            self.assertIs(is_complete(one), False)
            self.assertNotEqual(tossed(one)[0], (0, 1))
            self.assertLess(Fraction(*weight(one)), 1)
            self.assertIsNotNone(least_free(one))

    def test_many_kinds(self):
        kinds = {letter: row(*[Call(chr(ord(letter) + 1))] * 8) for letter in "abcdefghijklmnopqrs"}
        whole = Edition({**kinds, "t": Number(0, 2)}, "a", 5)
        self.assertIs(is_complete(whole), True)
        self.assertEqual(weight(whole), (1, 1))
        self.assertEqual(tossed(whole), ((0, 1), pair(8 ** 19 * Fraction(3, 2))))
        part = Edition({**kinds, "t": THREE}, "a", 5)
        self.assertIs(is_complete(part), False)
        self.assertEqual(weight(part, "s"), (3 ** 8, 4 ** 8))


class TossedTest(unittest.TestCase):
    def test_small_ones(self):
        one = edition(root=THREE, tight=Number(0, 2), run=Items(Number(0, 2)), open=Items(THREE), both=row(THREE, Bits(3)))
        self.assertEqual(tossed(one), ((1, 4), (2, 1)))
        self.assertEqual(tossed(one, "tight"), ((0, 1), (3, 2)))
        # 1 and, half of the times, what an item takes and the same once more.
        self.assertEqual(tossed(one, "run"), ((0, 1), (7, 2)))
        self.assertEqual(tossed(one, "open"), ((1, 5), (16, 5)))
        self.assertEqual(tossed(one, "both"), ((1, 4), (17, 4)))

    def test_form(self):
        told = tossed(edition(root=THREE))
        self.assertIs(type(told), tuple)
        self.assertEqual([type(part) for part in told], [tuple, tuple])

    def test_rooms_and_bodies(self):
        one = edition(count=1, root=Row([Room("11", "r", None), Part("p", THREE)]),
                      longer=Row([Room("1101", "r", None), Part("p", THREE)]))
        # 2 bits, the count behind "11", a bit behind a count of 1, and 2 bits behind the body.
        self.assertEqual(tossed(one)[1], pair(2 + half(2) * (1 + half(1) + 2)))
        self.assertEqual(tossed(one, "longer")[1], pair(2 + half(2) + half(3) + half(4) * (1 + half(1) + 2)))
        self.assertEqual(tossed(one)[0], pair(1 - Fraction(15, 16)))


if __name__ == "__main__":
    unittest.main()
