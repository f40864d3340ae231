"""Editions for the tests that compare with lists of all messages, and what these lists tell."""

import unittest

from roomleft.editions import Edition
from roomleft.errors import BadBits, Left, RoomError, TooFew
from roomleft.kinds import Bits, Call, Number, Part, Row
from roomleft.reading import read
from tests.maker import Maker
from tests.oracle import Beginnings, Oracle
from tests.samples import sample_editions

BIT = Number(0, 1)
THREE = Number(0, 2, 2)


def row(*kinds):
    return Row([Part("pqrstuvw"[at], kind) for at, kind in enumerate(kinds)])


def edition(count=3, **kinds):
    return Edition(kinds, "root", count)


def chain(many):
    """An edition whose messages have so many bits, any ones: it has as many standings."""
    kinds = {}
    calls = []
    for at in range(5):
        letter = "abcde"[at]
        inner = Bits(1) if at == 0 else Call("k" + "abcde"[at - 1])
        digit = many // 8 ** at if at == 4 else many // 8 ** at % 8
        kinds["k" + letter] = row(*[inner] * 8)
        if digit:
            kinds["p" + letter] = row(*[inner] * digit)
            calls.append(Call("p" + letter))
    return Edition({**kinds, "root": row(*calls)}, "root", 1)


def is_read(one, bits):
    """Whether bits are a message that the edition reads."""
    try:
        read(one, bits)
    except (BadBits, TooFew, Left):
        return False
    return True


class ErrorsCase(unittest.TestCase):
    def raises(self, error, call, *arguments, **named):
        """The call raises an error of the same class with the same fields."""
        with self.assertRaises(type(error)) as caught:
            call(*arguments, **named)
        self.assertEqual(vars(caught.exception), vars(error))


def ascending(rows):
    """Rows of bits, the less ones first."""
    return sorted(rows, key=lambda row: (len(row), row))


def random_editions(seeds):
    """A list of pairs (seed, edition)."""
    made = []
    for seed in seeds:
        try:
            made.append((seed, Edition(*Maker(seed).kinds())))
        except RoomError:
            pass
    return made


def some_editions(seeds):
    """Small editions with each kind, and some that are made at random: a list of pairs (label, edition)."""
    return [(label, edition) for label, (edition, _) in sample_editions().items()] + random_editions(seeds)


class Listed:
    """All messages of a kind with at most so many bits, and beginnings that are told in full up to `sure` bits."""

    def __init__(self, edition, name, limit):
        oracle = Oracle(edition.kinds, edition.count)
        self.messages = oracle.of(name, limit)
        self.own = ascending(bits for bits, _, _, own in self.messages if own)
        self.sure = limit - oracle.greatest_lack(edition.kinds[name])
        self.told = Beginnings(self.messages)

    def live(self, size):
        """The beginnings of so many bits behind which a message can come and that are none."""
        return [row for row in self.told.ends if len(row) == size and row not in self.told.whole]

    def least_free(self):
        """The least free words with at most `sure` bits, ascending."""
        words = []
        for size in range(self.sure):
            for row in self.live(size):
                words.extend(row + bit for bit in "01" if row + bit not in self.told.ends)
        return ascending(words)
