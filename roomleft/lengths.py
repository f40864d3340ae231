"""How long the own messages of kinds can be, as far as the bodies of an edition ask for it.

A set of lengths is an integer: bit number n of it is 1 if n is in the set, for
n up to `most`, the greatest number that the count of a body can have; the bit
behind these stands for all greater lengths.
"""

from roomleft.codes import how_many_integers, tight_code
from roomleft.errors import LongBody
from roomleft.kinds import Bits, Call, Choice, Door, Items, Nothing, Number, Room, Row


class Lengths:
    """The sets of lengths of the own messages of an edition's kinds."""

    def __init__(self, named, count):
        self.named = named
        self.count = count
        self.most = (1 << count) - 1
        self.known = {}

    def of_name(self, name):
        if name not in self.known:
            self.known[name] = self.of_kind(self.named[name])
        return self.known[name]

    def of_kind(self, kind):
        if isinstance(kind, Nothing):
            return 1
        if isinstance(kind, Number):
            return self.capped(number_lengths(kind))
        if isinstance(kind, Bits):
            return self.capped(1 << kind.many)
        if isinstance(kind, Call):
            return self.of_name(kind.name)
        if isinstance(kind, Items):
            return self.of_items(kind)
        if isinstance(kind, Choice):
            return self.of_choice(kind)
        return self.of_row(kind)

    def of_items(self, kind):
        item = self.of_kind(kind.item)
        if kind.width is None:
            return self.of_run(self.longer(item, 1))
        lengths = 1
        for _ in range((1 << kind.width) - 1):
            lengths = lengths | self.joined(lengths, item)
        return self.longer(lengths, kind.width)

    def of_run(self, item):
        """Of any number of items, each with the bit ahead of it, and of the bit behind the last one."""
        lengths = self.capped(2)
        while True:
            further = lengths | self.joined(lengths, item)
            if further == lengths:
                return lengths
            lengths = further

    def of_choice(self, kind):
        lengths = 0
        for way in kind.ways:
            inside = self.of_body(way.kind) if isinstance(way, Door) else self.of_kind(way.kind)
            lengths = lengths | self.longer(inside, len(way.word))
        return lengths

    def of_row(self, kind):
        lengths = 1
        for part in kind.parts:
            if isinstance(part, Room):
                inside = 1 | self.longer(self.of_body(part.kind), len(part.word))
            else:
                inside = self.of_kind(part.kind)
            lengths = self.joined(lengths, inside)
        return lengths

    def of_body(self, kind):
        """Of the bodies that an own message can have: those that fit, and none for what is unknown."""
        if kind is None:
            return 0
        fitting = self.of_kind(kind) & ((1 << (self.most + 1)) - 1)
        return self.longer(fitting, self.count)

    def has_long(self, kind):
        """Whether the kind has an own message that fits into no body."""
        return kind is not None and self.of_kind(kind) >> (self.most + 1) != 0

    def joined(self, one, other):
        """The lengths of a message of one set with one of the other set behind it."""
        lengths = 0
        for size in range(self.most + 2):
            if (one >> size) & 1 == 1:
                lengths = lengths | (other << size)
        return self.capped(lengths)

    def longer(self, lengths, size):
        return self.capped(lengths << size)

    def capped(self, lengths):
        over = 1 << (self.most + 1)
        if lengths < over:
            return lengths
        return (lengths & (over - 1)) | over


def number_lengths(kind):
    if kind.width is not None:
        return 1 << kind.width
    many = how_many_integers(kind)
    size, short = tight_code(many)
    return 1 << size if short == many else 3 << size


def check_bodies(named, count):
    lengths = Lengths(named, count)
    for name in sorted(named):
        for inner in bodies_of(named[name]):
            if lengths.has_long(inner.kind):
                raise LongBody(name, inner.name)


def bodies_of(kind):
    """The doors or rooms of a kind."""
    if isinstance(kind, Choice):
        return [way for way in kind.ways if isinstance(way, Door)]
    return rooms_of(kind)


def rooms_of(kind):
    if isinstance(kind, Row):
        return [part for part in kind.parts if isinstance(part, Room)]
    return []
