import random
import unittest
from itertools import permutations, product

from roomleft.editions import Edition
from roomleft.errors import BadWeights, NoKind
from roomleft.free import way_words
from roomleft.kinds import Bits, Call, Choice, Door, Nothing, Number, Part, Row, Way
from roomleft.wishes import cheapest_words, fits
from tests.lists import ErrorsCase
from tests.oracle import rows
from tests.strange import strange_things

BIT = Number(0, 1)
CHOICES = (
    ["0"], ["0", "10"], ["0", "10", "110"], ["00", "01", "10"], ["101"], ["00000000"], ["0", "1"], ["00", "01", "10", "11"],
    ["0", "10", "110", "1110", "11110", "111110", "1111110"],
    ["0", "10", "110", "1110", "11110", "111110", "1111110", "11111110"],
    ["0", "10", "110", "1110", "11110", "111110", "1111110", "11111110", "11111111"],
    ["0", "100", "1010", "1111111"], ["000", "0110", "111", "10000000", "10000001"], ["1", "01", "0010", "00000001"],
)


def choice(words):
    return Choice([Way(word, "abcdefghijkl"[at], Nothing()) for at, word in enumerate(words)])


def edition(words):
    return Edition({"root": choice(words), "row": Row([Part("p", BIT)]), "bits": Bits(1), "call": Call("root")}, "bits", 1)


def apart(words):
    return not any(one.startswith(other) for one, other in permutations(words, 2))


def can_part(lengths, places):
    """Whether the lengths can be parted among the rows with these lengths so that none gets too much: all ways are tried."""
    if not lengths:
        return True
    room = 2.0 ** -lengths[0]
    return any(can_part(lengths[1:], places[:at] + [place - room] + places[at + 1:])
               for at, place in enumerate(places) if place >= room)


def cheapest(words, weights):
    """The least sum by the fact about the lengths of rows: all lengths are tried."""
    places = [2.0 ** -len(word) for word in way_words(edition(words), "root", 8)]
    best = None
    for lengths in product(range(1, 9), repeat=len(weights)):
        total = sum(weight * length for weight, length in zip(weights, lengths))
        if (best is None or total < best) and can_part(lengths, places):
            best = total
    return best


class CheapestTest(ErrorsCase):
    def check(self, words, weights):
        """What is told fits, has its sum, and none is less."""
        told = cheapest_words(edition(words), "root", weights)
        if told is None:
            return None
        total, found = told
        self.assertIs(type(told), tuple)
        self.assertIs(type(found), list)
        self.assertEqual(len(found), len(weights))
        self.assertTrue(all(1 <= len(word) <= 8 and not word.strip("01") for word in found))
        self.assertTrue(apart(words + found))
        self.assertEqual(total, sum(weight * len(word) for weight, word in zip(weights, found)))
        self.assertIs(fits(edition(words), "root", found), True)
        return total

    def test_against_all_lengths(self):
        luck = random.Random(7)
        for words in CHOICES:
            for many in (1, 2, 3, 4):
                for top in (1, 3, 20):
                    weights = [luck.randint(0, top) for _ in range(many)]
                    self.assertEqual(self.check(words, weights), cheapest(words, weights), (words, weights))

    def test_against_all_words(self):
        """All words of few bits are tried, where longer ones would not be cheaper."""
        for words, weights in (
            (["0"], [1]), (["0"], [1, 1]), (["0"], [5, 1, 1]), (["0", "10"], [3, 2, 1]), (["00", "01"], [4, 4, 1]), (["101"], [1, 2, 3]),
        ):
            found = [list(tried) for tried in product([bits for size in range(1, 6) for bits in rows(size)], repeat=len(weights))
                     if apart(words + list(tried))]
            least = min(sum(weight * len(word) for weight, word in zip(weights, tried)) for tried in found)
            self.assertEqual(self.check(words, weights), least)

    def test_5_and_6_weights(self):
        for words, weights, total in (
            (["0"], [1] * 5, 17), (["0"], [1] * 6, 22), (["0"], [32, 16, 8, 4, 2, 1], None), (["0", "10"], [1] * 6, 28),
            (["1111111"], [7, 0, 0, 3, 3, 0], None), (["0", "10", "110", "1110", "11110"], [1] * 6, 46),
            (["0", "10", "110", "1110", "11110", "111110"], [1] * 4, 32),
        ):
            told = self.check(words, weights)
            self.assertEqual(told, brute(words, weights))
            if total is not None:
                self.assertEqual(told, total)

    def test_none(self):
        for words, most in ((["0", "1"], 0), (["00", "01", "10", "11"], 0), (CHOICES[8], 2), (CHOICES[9], 1), (CHOICES[10], 0)):
            for many in range(1, 7):
                told = cheapest_words(edition(words), "root", [1] * many)
                self.assertEqual(told is not None, many <= most, (words, many))

    def test_weights_of_0_and_60_digits(self):
        self.assertEqual(cheapest_words(edition(["0"]), "root", [0])[0], 0)
        self.assertEqual(self.check(["0"], [0, 0, 0, 0, 0, 0]), 0)
        self.assertEqual(self.check(["0"], [0, 5, 0]), 10)
        big = 10 ** 60 - 1
        self.assertEqual(self.check(["0"], [big, 1]), 2 * big + 2)
        self.assertEqual(self.check(["0"], [big, big - 1, big]), 2 * big + 3 * (2 * big - 1))
        self.assertEqual(self.check(["0"], [1, big, 2]), 2 * big + 9)

    def test_same_call_same_words(self):
        for words in CHOICES:
            weights = [3, 1, 1, 2]
            told = cheapest_words(edition(words), "root", weights)
            self.assertEqual(cheapest_words(weights=list(weights), name="root", edition=edition(words)), told)
            self.assertEqual(weights, [3, 1, 1, 2])
            if told is not None:
                told[1].append("x")
                self.assertNotEqual(cheapest_words(edition(words), "root", weights), told)

    def test_errors(self):
        one = edition(["0"])
        for name in ("row", "bits", "call", "no", "", None, 0, ["root"]):
            self.raises(NoKind(), cheapest_words, one, name, "x")
        for thing in strange_things():
            self.raises(NoKind(), cheapest_words, one, thing, [1])
        for weights in ([], [1] * 7, (1, 2), [True], [1, False], [-1], [1, -1], [None], ["1"], [[1]], {}, None, 1, "1", [1, b"1"]):
            self.raises(BadWeights(), cheapest_words, one, "root", weights)
        for thing in strange_things():
            if thing != [0]:
                self.raises(BadWeights(), cheapest_words, one, "root", thing)
            if isinstance(thing, bool) or not isinstance(thing, int) or thing < 0:
                self.raises(BadWeights(), cheapest_words, one, "root", [1, thing])
        self.raises(BadWeights(), cheapest_words, edition(["0", "1"]), "root", [-1])


def brute(words, weights):
    """The least sum, by all ascending lists of lengths and the words that are given from left to right."""
    best = None
    for lengths in product(range(1, 9), repeat=len(weights)):
        if list(lengths) == sorted(lengths):
            total = sum(weight * length for weight, length in zip(sorted(weights, reverse=True), lengths))
            places = [2.0 ** -len(word) for word in way_words(edition(words), "root", 8)]
            if (best is None or total < best) and can_part(lengths, places):
                best = total
    return best


class FitsTest(ErrorsCase):
    def test_against_the_words(self):
        for words in CHOICES:
            one = edition(words)
            for word in [bits for size in range(1, 9) for bits in rows(size)]:
                self.assertIs(fits(one, "root", [word]), apart(words + [word]))

    def test_several(self):
        one = edition(["0", "100"])
        for words, expected in (
            (["11", "101"], True), (["101", "11"], True), (["11", "11"], False), (["11", "110"], False), (["110", "11"], False),
            (["1"], False), (["10"], False), (["0"], False), (["01"], False), (["100"], False), (["1001"], False),
            (["11111111"], True), (["111111111"], False), ([], False), (["110", "111", "1010", "1011"], True),
            (["1100", "1101", "1110", "1111", "1010", "1011"], True),
            (["1100", "1101", "1110", "1111", "1010", "10110", "10111"], False),
            (["11", "101", ""], False), ([""], False), (["1 1"], False), (["112"], False),
        ):
            self.assertIs(fits(one, "root", words), expected, words)
            self.assertIs(fits(words=words, name="root", edition=one), expected)

    def test_other_things(self):
        one = edition(["0"])
        for thing in strange_things():
            self.assertIs(fits(one, "root", thing), False)
            if not isinstance(thing, str) or thing not in ("1", "11", "10"):
                self.assertIs(fits(one, "root", ["11", thing]), False)
        for thing in (("11",), {"11": 1}, "11", ["11", None], [b"11"], [["11"]], [11], None):
            self.assertIs(fits(one, "root", thing), False)

    def test_errors(self):
        one = edition(["0"])
        for name in ("row", "bits", "call", "no", "", None, 0, ["root"]):
            self.raises(NoKind(), fits, one, name, ["11"])
        for thing in strange_things():
            self.raises(NoKind(), fits, one, thing, None)

    def test_many_ways(self):
        """The number of ways that a Choice can have is not looked at."""
        words = rows(4)[:12]
        one = Edition({"root": Choice([Door(word, "abcdefghijkl"[at], None) if at else Way(word, "a", BIT)
                                       for at, word in enumerate(words)])}, "root", 1)
        self.assertIs(fits(one, "root", ["1100", "1101", "1110", "11110", "111110", "111111"]), True)
        self.assertEqual(cheapest_words(one, "root", [1] * 6)[0], 28)


if __name__ == "__main__":
    unittest.main()
