"""All messages of small kinds, made straight from the document, without the package's reading and writing.

A message is a tuple (bits, value, events, own): events is a tuple of (at, (path, word, thing)).
"""

from itertools import product

from roomleft.errors import BadBits, Left, TooFew
from roomleft.kinds import Bits, Call, Choice, Door, Items, Nothing, Number, Room


def base_two(number, size):
    text = bin(number)[2:]
    return "0" * (size - len(text)) + text


def codes(number):
    """The list of the pairs (integer, bits, s)."""
    low, high = number.low, number.high
    if number.width is not None:
        return [(k, base_two(k - low, number.width), low) for k in range(low, high + 1)]
    many = high - low + 1
    b = 0
    while 2 ** (b + 1) <= many:
        b += 1
    u = 2 ** (b + 1) - many
    told = []
    for k in range(low, high + 1):
        bits = base_two(k - low, b) if k - low < u else base_two(k - low + u, b + 1)
        told.append((k, bits, k - int(bits, 2)))
    return told


def rows(size):
    return ["".join(row) for row in product("01", repeat=size)]


def behind(at, path, events):
    """The events with a path and a number of bits put ahead."""
    return tuple((at + k, (path + inner, word, thing)) for k, (inner, word, thing) in events)


class Oracle:
    def __init__(self, kinds, count):
        self.kinds = kinds
        self.count = count
        self.kept = {}

    def of(self, name, limit):
        """The messages of a named kind with at most so many bits."""
        if (name, limit) not in self.kept:
            self.kept[name, limit] = self.messages(self.kinds[name], limit)
        return self.kept[name, limit]

    def messages(self, kind, limit):
        if limit < 0:
            return []
        if isinstance(kind, Nothing):
            return [("", None, (), True)]
        if isinstance(kind, Number):
            return [(bits, k, ((len(bits) - 1, ((), "number", s)),), True)
                    for k, bits, s in codes(kind) if len(bits) <= limit]
        if isinstance(kind, Bits):
            if kind.many > limit:
                return []
            return [(bits, bits, ((kind.many - 1, ((), "bits", kind.many)),), True) for bits in rows(kind.many)]
        if isinstance(kind, Call):
            return self.of(kind.name, limit)
        if isinstance(kind, Items):
            return self.run(kind.item, limit) if kind.width is None else self.counted(kind, limit)
        if isinstance(kind, Choice):
            return self.choice(kind, limit)
        return self.row(kind.parts, limit)

    def run(self, item, limit):
        if limit < 1:
            return []
        made = [("0", [], ((0, ((), "end", 0)),), True)]
        items = self.messages(item, limit - 2)
        for bits, value, events, own in items:
            for bits2, value2, events2, own2 in self.run(item, limit - 1 - len(bits)):
                told = ((0, ((), "more", 0)),) + behind(1, ("*",), events) + behind(1 + len(bits), (), events2)
                made.append(("1" + bits + bits2, [value] + value2, told, own and own2))
        return made

    def counted(self, kind, limit):
        made = []
        for many in range(2 ** kind.width):
            begun = [(base_two(many, kind.width), [], ((kind.width - 1, ((), "count", kind.width)),), True)]
            for _ in range(many):
                begun = [(bits + bits2, value + [value2], events + behind(len(bits), ("*",), events2), own and own2)
                         for bits, value, events, own in begun
                         for bits2, value2, events2, own2 in self.messages(kind.item, limit - len(bits))]
            made.extend([one for one in begun if len(one[0]) <= limit])
        return made

    def body(self, kind, limit):
        """The bodies: values are pairs (value, rest)."""
        made = []
        for n in range(2 ** self.count):
            if self.count + n > limit:
                continue
            head = base_two(n, self.count)
            if kind is None:
                made.extend([(head + rest, (None, rest), (), False) for rest in rows(n)])
                continue
            for bits, value, events, own in self.messages(kind, n):
                told = ((self.count - 1, ((), "size", self.count)),) + behind(self.count, (), events)
                for rest in rows(n - len(bits)):
                    made.append((head + bits + rest, (value, rest), told, own and rest == ""))
        return made

    def choice(self, kind, limit):
        made = []
        for way in kind.ways:
            room = limit - len(way.word)
            is_door = isinstance(way, Door)
            word_event = ((len(way.word) - 1, ((), "door" if is_door else "way", way.name)),)
            inner = self.body(way.kind, room) if is_door else self.messages(way.kind, room)
            for bits, value, events, own in inner:
                told = word_event + behind(len(way.word), (way.name,), events)
                whole = (way.name,) + value if is_door else (way.name, value)
                made.append((way.word + bits, whole, told, own))
        return made

    def row(self, parts, limit):
        if not parts:
            return [("", {}, (), True)]
        part = parts[0]
        firsts = []
        if isinstance(part, Room):
            firsts.append(("", {}, (), True))
            for bits, value, events, own in self.body(part.kind, limit - len(part.word)):
                told = ((len(part.word) - 1, ((), "room", part.name)),)
                told += behind(len(part.word), (part.name,), events)
                firsts.append((part.word + bits, {part.name: value}, told, own))
        else:
            for bits, value, events, own in self.messages(part.kind, limit):
                firsts.append((bits, {part.name: value}, behind(0, (part.name,), events), own))
        made = []
        for bits, value, events, own in firsts:
            for bits2, value2, events2, own2 in self.row(parts[1:], limit - len(bits)):
                made.append((bits + bits2, {**value, **value2}, events + behind(len(bits), (), events2), own and own2))
        return made

    def greatest_lack(self, kind):
        """No beginning of a message needs more bits than this until a message is whole."""
        if isinstance(kind, Nothing):
            return 0
        if isinstance(kind, Number):
            return max(len(bits) for _, bits, _ in codes(kind))
        if isinstance(kind, Bits):
            return kind.many
        if isinstance(kind, Call):
            return self.greatest_lack(self.kinds[kind.name])
        if isinstance(kind, Items):
            item = self.greatest_lack(kind.item)
            return 1 + item if kind.width is None else kind.width + (2 ** kind.width - 1) * item
        body = self.count + 2 ** self.count - 1
        if isinstance(kind, Choice):
            return max(len(way.word) + (body if isinstance(way, Door) else self.greatest_lack(way.kind))
                       for way in kind.ways)
        return sum(len(part.word) + body if isinstance(part, Room) else self.greatest_lack(part.kind)
                   for part in kind.parts)


class Beginnings:
    """What all messages of a list tell about each of their beginnings."""

    def __init__(self, messages):
        self.whole = {bits: (value, events, own) for bits, value, events, own in messages}
        self.ends = {}
        self.sure = {}
        for bits, _, events, _ in messages:
            for size in range(len(bits) + 1):
                start = bits[:size]
                told = {event for event in events if event[0] < size}
                self.ends[start] = min(self.ends.get(start, len(bits)), len(bits))
                self.sure[start] = self.sure[start] & told if start in self.sure else told

    def outcome(self, row):
        """What reading must do with a row: a tuple whose first thing is a word."""
        for size in range(len(row) + 1):
            start = row[:size]
            if start in self.whole:
                return ("value", self.whole[start][0]) if size == len(row) else ("left", size)
            if start not in self.ends:
                return "bad", size - 1
        return "few", self.ends[row] - len(row)


def outcome(call):
    """What a call of reading does, in the form of Beginnings.outcome."""
    try:
        return "value", call()
    except BadBits as error:
        return "bad", error.at
    except TooFew as error:
        return "few", error.due
    except Left as error:
        return "left", error.at
