"""Kinds that are made at random, the same ones for the same seed."""

import random

from roomleft.kinds import Bits, Call, Choice, Door, Items, Nothing, Number, Part, Room, Row, Way


class Maker:
    """Makes kinds that often leave room, so that rooms can stand ahead of them."""

    def __init__(self, seed):
        self.luck = random.Random(seed)

    def word(self, most):
        return "".join(self.luck.choice("1110") for _ in range(self.luck.randint(1, most)))

    def simple(self, names, with_nothing=False, as_item=False):
        sort = self.luck.choice(["wide", "wide", "wide", "tight", "bits", "items", "call", "call", "nothing"])
        if sort == "items" and not as_item:
            return Items(self.simple(names, as_item=True), self.luck.choice([1, 1, None, 2]))
        if sort == "call" and names:
            return Call(self.luck.choice(names))
        if sort == "nothing" and with_nothing:
            return Nothing()
        if sort == "bits":
            return Bits(self.luck.randint(1, 2))
        low = self.luck.randint(-3, 3)
        if sort == "tight":
            return Number(low, low + self.luck.randint(1, 4))
        width = self.luck.choice([2, 2, 3])
        return Number(low, low + self.luck.randint(2, 2 ** width) - 1, width)

    def choice(self, names):
        ways = []
        for name in "xyzu"[:self.luck.randint(1, 4)]:
            word = self.word(3)
            if not any(word.startswith(way.word) or way.word.startswith(word) for way in ways):
                if ways and self.luck.random() < 0.5:
                    kind = None if self.luck.random() < 0.3 else self.simple(names, with_nothing=True)
                    ways.append(Door(word, name, kind))
                else:
                    ways.append(Way(word, name, self.simple(names, with_nothing=True)))
        self.luck.shuffle(ways)
        return Choice(ways)

    def row(self, names):
        parts = [Part("p", self.simple(names))]
        for name in "qrst"[:self.luck.randint(0, 3)]:
            if self.luck.random() < 0.6:
                parts.insert(0, Room(self.word(6), name, None if self.luck.random() < 0.4 else self.simple(names)))
            else:
                parts.insert(0, Part(name, self.simple(names)))
        return Row(parts)

    def kinds(self):
        made = {}
        names = self.luck.sample(["a", "b", "c", "dd", "e"], self.luck.randint(1, 4))
        for name in names:
            make = self.luck.choice([self.row, self.row, self.row, self.choice, self.simple])
            made[name] = make(list(made))
        return made, self.luck.choice(names), self.luck.choice([1, 1, 2, 2, 3])
