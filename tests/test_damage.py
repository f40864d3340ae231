import unittest

from roomleft.damage import dropped, put, turned, unseen
from roomleft.editions import Edition
from roomleft.errors import BadNumber, NoBits, TooMany
from roomleft.kinds import Call, Choice, Door, Items, Nothing, Number, Way
from roomleft.reading import is_own
from roomleft.sizes import greatest_size
from tests.lists import BIT, THREE, ErrorsCase, Listed, chain, edition, is_read, row, some_editions
from tests.oracle import rows
from tests.strange import strange_things


def no_bits():
    return [thing for thing in strange_things() if not isinstance(thing, str) or thing.strip("01")]


def no_place(most):
    """Things that are no integers from 0 to most."""
    return [thing for thing in strange_things() + [-1, most + 1, most + 2, 10 ** 59]
            if isinstance(thing, bool) or not isinstance(thing, int) or not 0 <= thing <= most]


class DamageTest(ErrorsCase):
    def test_turned(self):
        for bits in [bits for size in range(1, 7) for bits in rows(size)]:
            for at in range(len(bits)):
                made = turned(bits, at)
                self.assertEqual([one != other for one, other in zip(bits, made)], [place == at for place in range(len(bits))])
                self.assertEqual(len(made), len(bits))
        self.assertEqual([turned("0110", 0), turned(bits="0110", at=3), turned("1", 0)], ["1110", "0111", "0"])

    def test_dropped(self):
        self.assertEqual([dropped("0110", 0), dropped("0110", 1), dropped(bits="0110", at=3), dropped("1", 0)],
                         ["110", "010", "011", ""])

    def test_put(self):
        self.assertEqual([put("0110", 0, "1"), put("0110", 1, "1"), put("0110", 3, "1"), put(bits="0110", at=4, bit="1")],
                         ["10110", "01110", "01110", "01101"])
        self.assertEqual([put("", 0, "0"), put("1", 0, "0"), put("1", 1, "0")], ["0", "01", "10"])

    def test_errors_in_their_order(self):
        for thing in no_bits():
            for at in (0, -1, None):
                self.raises(NoBits(), turned, thing, at)
                self.raises(NoBits(), dropped, thing, at)
                self.raises(NoBits(), put, thing, at, "0")
                self.raises(NoBits(), put, thing, at, None)
        for thing in no_place(3):
            self.raises(BadNumber("at"), turned, "0110", thing)
            self.raises(BadNumber("at"), dropped, "0110", thing)
        for thing in no_place(4):
            self.raises(BadNumber("at"), put, "0110", thing, "0")
            self.raises(BadNumber("at"), put, "0110", thing, "2")
        for thing in no_bits() + ["", "00", "01", "110"]:
            for at in (0, 2, 4):
                self.raises(NoBits(), put, "0110", at, thing)
        for call in (turned, dropped):
            self.raises(BadNumber("at"), call, "", 0)
            self.raises(BadNumber("at"), call, "0", 1)
        self.raises(BadNumber("at"), put, "", 1, "0")


def first_unseen(one, bits):
    for at in range(len(bits)):
        if is_read(one, turned(bits, at)):
            return at
    return None


class UnseenTest(ErrorsCase):
    def test_all_own_messages_of_a_few_bits(self):
        found = {True: 0, False: 0}
        for label, one in some_editions(range(700)):
            limit = 11
            told = unseen(one)
            own = Listed(one, one.root, limit).own
            expected = next(((bits, at) for bits, at in ((bits, first_unseen(one, bits)) for bits in own[:600]) if at is not None), None)
            if expected is not None:
                self.assertEqual(told, expected, label)
                self.assertIs(type(told), tuple)
            elif told is not None:
                self.assertTrue(is_own(one, told[0]))
                self.assertTrue(len(own) > 600 or len(told[0]) > limit, label)
                self.assertEqual(first_unseen(one, told[0]), told[1])
            else:
                found[False] += greatest_size(one) is not None and greatest_size(one) <= limit
            found[told is not None] += 1
        self.assertGreater(min(found.values()), 5, found)

    def test_known_ones(self):
        self.assertEqual(unseen(edition(root=BIT)), ("0", 0))
        self.assertEqual(unseen(edition=edition(root=Number(0, 2))), ("10", 1))
        self.assertEqual(unseen(edition(root=THREE)), ("00", 0))
        self.assertEqual(unseen(edition(root=Number(0, 1, 3))), ("000", 2))
        self.assertIsNone(unseen(edition(root=Choice([Way("0", "a", Nothing())]))))
        self.assertIsNone(unseen(edition(root=Choice([Way("00", "a", Nothing()), Way("11", "b", Nothing())]))))
        self.assertIsNone(unseen(edition(root=Choice([Way("0", "a", Nothing()), Way("10", "b", Nothing())]))))
        self.assertEqual(unseen(edition(root=Choice([Way("0", "a", Nothing()), Way("11", "b", Nothing()), Way("10", "c", Nothing())]))),
                         ("10", 1))
        self.assertEqual(unseen(edition(root=Items(BIT))), ("100", 1))

    def test_what_is_read_need_not_be_own(self):
        """A door that no own message uses."""
        one = edition(1, root=Choice([Way("000", "a", Nothing()), Door("01", "d", None), Way("111", "b", Nothing())]))
        self.assertEqual(unseen(one), ("000", 1))
        rest = edition(2, root=Choice([Way("0", "a", Nothing()), Door("1", "d", Call("e"))]),
                       e=Choice([Way("0", "x", Nothing())]))
        self.assertIsNone(unseen(rest))

    def test_a_rest_takes_the_place_of_a_message(self):
        one = edition(2, root=Choice([Way("0", "a", Nothing()), Door("1", "d", Call("e"))]),
                      e=Choice([Way("0", "x", Nothing()), Way("11", "y", Nothing())]))
        # Behind the count "10" the message "11" is read as "0" and a rest "1", once its first bit is turned.
        self.assertEqual(unseen(one), ("11011", 3))

    def test_equal_calls(self):
        one = edition(root=row(THREE, Items(BIT)))
        self.assertEqual(unseen(one), unseen(one))
        self.assertEqual(unseen(one), unseen(Edition(one.kinds, "root", 3)))

    def test_bound(self):
        self.assertEqual(unseen(chain(141)), ("0" * 141, 0))
        self.raises(TooMany(20000), unseen, chain(142))
        self.raises(TooMany(20000), unseen, chain(20001))
        far = edition(1, root=row(*[Call("a")] * 4, *[Call("b")] * 2), a=Choice([Way("1" * 8, "w", Nothing())]),
                      b=Choice([Way("1" * 8, "w", Nothing()), Way("0" * 8, "v", Nothing())]))
        self.assertIsNone(unseen(far))

    def test_a_message_far_away(self):
        """The first messages of many lengths have no such bit."""
        words = ["1" * size + "0" for size in range(7)] + ["1" * 7]
        one = edition(1, root=Choice([Way(word, "abcdefgh"[at], Nothing() if at < 7 else BIT) for at, word in enumerate(words)]))
        self.assertEqual(unseen(one), ("1" * 7 + "0", 7))


if __name__ == "__main__":
    unittest.main()
