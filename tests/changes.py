"""Editions that are changed so that they often still read what the former one writes."""

import random

from roomleft.editions import Edition
from roomleft.errors import BadKind, RoomError
from roomleft.kinds import Bits, Call, Choice, Door, Items, Nothing, Number, Part, Room, Row, Way
from roomleft.steps import changed
from tests.lists import random_editions


class Changes:
    """With cut, ways often lose their kinds, and rows their last parts, as they may within a body."""

    def __init__(self, luck, cut=False):
        self.luck = luck
        self.cut = 0.3 if cut else 0.05

    def often(self, chance):
        return self.luck.random() < chance

    def edition(self, one):
        """A changed edition, or None if it cannot be made."""
        kinds = {name: self.named(kind) for name, kind in one.kinds.items()}
        root = one.root
        if self.often(0.2):
            kinds["via"], root = Call(root), "via"
        return made_or_none(kinds, root, one.count + 1 if self.often(0.1) else one.count)

    def named(self, kind):
        try:
            if isinstance(kind, Choice):
                return Choice(self.ways(kind.ways))
            if isinstance(kind, Row):
                return Row(self.parts(kind.parts))
        except BadKind:
            return kind
        return self.simple(kind)

    def ways(self, ways):
        ways = [changed(way, self.inner(way)) for way in ways if not self.often(0.03)]
        if self.often(0.3):
            ways.append(self.luck.choice([Way("11111", "v", Bits(1)), Door("11110", "w", None)]))
        if self.often(0.3):
            self.luck.shuffle(ways)
        return ways

    def parts(self, parts):
        parts = [changed(part, self.inner(part)) for part in parts if not (isinstance(part, Room) and self.often(0.1))]
        if self.often(2 * self.cut):
            parts = parts[:-1]
            while parts and isinstance(parts[-1], Room):
                parts = parts[:-1]
        if self.often(0.1):
            parts.append(Part("end", Bits(1)))
        if self.often(0.1):
            parts.insert(0, Room("11111111", "top", None))
        return parts

    def inner(self, inner):
        """Another kind for a way, door, part or room."""
        if isinstance(inner, (Door, Room)):
            chance = self.luck.random()
            if chance < 0.3:
                return None
            if chance < 0.4 and isinstance(inner, Door):
                return Nothing()
            if inner.kind is None:
                return Bits(1) if chance < 0.6 else None
        if isinstance(inner.kind, Nothing):
            return Bits(1) if self.often(0.05) else inner.kind
        return Nothing() if isinstance(inner, Way) and self.often(self.cut) else self.simple(inner.kind)

    def simple(self, kind):
        if isinstance(kind, Items):
            return Items(self.simple(kind.item), kind.width if self.often(0.95) else self.luck.choice([None, 1, 2]))
        if isinstance(kind, Number):
            return self.number(kind)
        if isinstance(kind, Bits):
            return kind if self.often(0.95) else Number(0, 2 ** kind.many - 1)
        return kind

    def number(self, kind):
        many = kind.high - kind.low + 1
        size = many.bit_length() - 1
        if self.often(0.3) and many == 2 ** size:
            return Number(kind.low, kind.high, size if kind.width is None else None)
        if self.often(0.3) and kind.width is not None:
            return Number(kind.low, kind.low + 2 ** kind.width - 1, self.luck.choice([kind.width, None]))
        if self.often(0.05):
            return Number(kind.low, kind.high + self.luck.choice([-1, 1]) if many > 2 else kind.high + 1)
        return kind


def within_bodies(kinds, root, luck):
    """An edition in which the root is the kind of a body, and mostly of another one, or of a part, as well; or None."""
    ways = [Way("0", "none", Nothing()), Door("10", "door", Call(root)), Door("11", "other", Call(luck.choice(sorted(kinds))))]
    more = {"top": Choice(ways[:luck.choice([2, 3, 3])])}
    if luck.random() < 0.3:
        more["all"] = Row([Part("top", Call("top")), Part("last", Call(luck.choice(sorted(kinds))))])
    return made_or_none({**kinds, **more}, "all" if "all" in more else "top", 5)


def changed_pairs(seeds):
    """A list of tuples (seed, writer, reader)."""
    made = []
    for seed, one in random_editions(seeds):
        for turn in range(4):
            luck = random.Random(4 * seed + turn)
            other = Changes(luck).edition(one)
            if other is not None:
                made.extend([(seed, one, other), (seed, other, one)])
            writer = within_bodies(one.kinds, one.root, luck)
            changes = Changes(luck, cut=True)
            kinds = {name: changes.named(kind) for name, kind in one.kinds.items()}
            if writer is not None:
                kinds, root = {**writer.kinds, **kinds}, writer.root
                if turn % 2:
                    kinds, root = renamed(kinds, root, luck)
                reader = made_or_none(kinds, root, 5)
                made.extend([] if reader is None else [(seed, writer, reader)])
    return made


def renamed(kinds, root, luck):
    """The same kinds under other names, some of which other kinds had."""
    others = sorted(kinds)
    luck.shuffle(others)
    names = dict(zip(sorted(kinds), others))

    def inside(kind):
        if isinstance(kind, Call):
            return Call(names[kind.name])
        if isinstance(kind, Items):
            return Items(inside(kind.item), kind.width)
        if isinstance(kind, Choice):
            return Choice([changed(way, inside(way.kind)) for way in kind.ways])
        if isinstance(kind, Row):
            return Row([changed(part, inside(part.kind)) for part in kind.parts])
        return kind

    return {names[name]: inside(kind) for name, kind in kinds.items()}, names[root]


def made_or_none(kinds, root, count):
    try:
        return Edition(kinds, root, count)
    except RoomError:
        return None
