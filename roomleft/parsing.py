"""The values of messages whose bits are known to be in order."""

from roomleft.codes import how_many_integers, tight_code
from roomleft.kinds import Bits, Call, Choice, Door, Items, Nothing, Number, Room


class Parse:
    """Goes through the bits of one message and makes its value.

    Afterwards own tells whether it is an own one, and passed has the numbers of
    the bits that are stepped over: those of unknown bodies and of rests.
    """

    def __init__(self, plan, text):
        self.plan = plan
        self.text = text
        self.at = 0
        self.own = True
        self.passed = []

    def cut(self, many):
        """The next bits, which are read by this."""
        self.at += many
        return self.text[self.at - many:self.at]

    def number(self, many):
        return int(self.cut(many), 2)

    def value(self, kind):
        if isinstance(kind, Nothing):
            return None
        if isinstance(kind, Number):
            return self.integer(kind)
        if isinstance(kind, Bits):
            return self.cut(kind.many)
        if isinstance(kind, Call):
            return self.value(self.plan.named[kind.name])
        if isinstance(kind, Items):
            return self.listed(kind)
        if isinstance(kind, Choice):
            return self.chosen(kind)
        return self.parted(kind)

    def integer(self, kind):
        if kind.width is not None:
            return kind.low + self.number(kind.width)
        size, short = tight_code(how_many_integers(kind))
        number = self.number(size)
        if number < short:
            return kind.low + number
        return kind.low + 2 * number + self.number(1) - short

    def listed(self, kind):
        things = []
        if kind.width is None:
            while self.cut(1) == "1":
                things.append(self.value(kind.item))
        else:
            for _ in range(self.number(kind.width)):
                things.append(self.value(kind.item))
        return things

    def chosen(self, kind):
        for way in kind.ways:
            if self.begins_with(way.word):
                self.cut(len(way.word))
                if isinstance(way, Door):
                    value, rest = self.filled(way.kind)
                    return way.name, value, rest
                return way.name, self.value(way.kind)
        return None

    def parted(self, kind):
        things = {}
        for part in kind.parts:
            if not isinstance(part, Room):
                things[part.name] = self.value(part.kind)
            elif self.begins_with(part.word):
                self.cut(len(part.word))
                things[part.name] = self.filled(part.kind)
        return things

    def begins_with(self, word):
        return self.text.startswith(word, self.at)

    def filled(self, kind):
        """The pair of the value and the rest of a body, None being the kind of an unknown one."""
        begin = self.at
        many = self.number(self.plan.count)
        end = self.at + many
        value = None
        if kind is not None:
            value = self.value(kind)
            begin = self.at
        rest = self.cut(end - self.at)
        self.passed.extend(list(range(begin, end)))
        if kind is None or rest != "":
            self.own = False
        return value, rest
