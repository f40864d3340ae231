"""The kinds of an edition as rules that take one bit: for all questions about bits alone, without events.

A SYMBOL is a number. Its rule is a pair: what is due behind a bit 0, and what behind a bit 1.
That is a LINE, a tuple of the symbols that stand behind one another, or None if the bit is
refused; the line () is the end. A line takes its first bit by the rule of its first symbol.

What both sides of a rule would end with stands behind the symbol instead, and equal rules have
one symbol. So no symbol can be parted into two codes behind one another; as codes of which no
row begins another one can be parted in one way only, two lines are equal exactly if they read
the same bits (where no line is folded).
"""

from roomleft.codes import how_many_integers, tight_code
from roomleft.kinds import Bits, Call, Choice, Door, Nothing, Number, Room, Row

BIT = 0
# A longer line has more standings than are ever counted; just same_standing must tell it from equal ones.
LONGEST = 20000


class Grammar:
    """The rules for the messages that an edition reads, or for its own messages alone."""

    def __init__(self, named, count, is_own):
        self.named = named
        self.count = count
        self.is_own = is_own
        self.rules = []
        self.least = []
        self.refusals = []
        self.symbols = {}
        self.runs = {}
        self.lines = {}
        self.tails = {}
        self.fitted = {}
        self.has_folded = False
        self.symbol((), ())

    def symbol(self, zero, one):
        """The symbol of a rule; those in the rule have smaller numbers, but that of a run in its own."""
        if (zero, one) not in self.symbols:
            self.symbols[(zero, one)] = len(self.rules)
            self.rules.append((zero, one))
            sides = [side for side in (zero, one) if side is not None]
            self.least.append(1 + min([self.least_of(side) for side in sides]))
            due = 0 if len(sides) == 1 else sooner(self.refusal_of(zero), self.refusal_of(one))
            self.refusals.append(None if due is None else 1 + due)
        return self.symbols[(zero, one)]

    def run(self, item):
        """The symbol of any number of items, each behind a bit 1, with a bit 0 behind the last one."""
        if item not in self.runs:
            symbol = len(self.rules)
            again = item + (symbol,)
            self.runs[item] = symbol
            self.symbols[((), again)] = symbol
            self.rules.append(((), again))
            self.least.append(1)
            due = self.refusal_of(item)
            self.refusals.append(None if due is None else 1 + due)
        return self.runs[item]

    def least_of(self, line):
        """The least number of bits of a message of a line."""
        return sum([self.least[symbol] for symbol in line])

    def refusal_of(self, line):
        """The least number of bits of which a line refuses the last one and no other; None if there is none."""
        ahead = 0
        found = None
        for symbol in line:
            due = self.refusals[symbol]
            if due is not None:
                found = sooner(found, ahead + due)
            ahead += self.least[symbol]
        return found

    def behind(self, line, bit):
        """What is due behind a bit."""
        side = self.rules[line[0]][bit]
        return None if side is None else side + line[1:]

    def forked(self, zero, one):
        """The line of one bit with what is due behind it; None if it could never end."""
        if zero is None and one is None:
            return None
        if zero is None:
            return (self.symbol(None, ()),) + one
        if one is None:
            return (self.symbol((), None),) + zero
        same = common_end(zero, one)
        symbol = self.symbol(zero[:len(zero) - same], one[:len(one) - same])
        return (symbol,) + zero[len(zero) - same:]

    def folded(self, line):
        if len(line) <= LONGEST:
            return line
        self.has_folded = True
        return (self.symbol(self.behind(line, 0), self.behind(line, 1)),)

    def with_word(self, line, word, target):
        """The line that reads what another one reads (None: nothing) and, behind a word free for it, a target."""
        if word == "":
            return target
        sides = [None, None] if line is None else [self.behind(line, 0), self.behind(line, 1)]
        bit = int(word[0])
        sides[bit] = self.with_word(sides[bit], word[1:], target)
        return self.forked(sides[0], sides[1])

    def tree(self, lines):
        """The line of some bits whose number tells which line is due behind them."""
        while len(lines) > 1:
            lines = [self.forked(lines[at], lines[at + 1]) for at in range(0, len(lines), 2)]
        return lines[0]

    def line_of_name(self, name):
        if name not in self.lines:
            kind = self.named[name]
            if isinstance(kind, Row):
                self.tails[name] = self.tails_of(kind)
                self.lines[name] = self.tails[name][0]
            elif isinstance(kind, Choice):
                self.lines[name] = self.line_of_choice(kind)
            else:
                self.lines[name] = self.line_of(kind)
        return self.lines[name]

    def line_of(self, kind):
        """The line of a simple kind or of Nothing."""
        if isinstance(kind, Nothing):
            return ()
        if isinstance(kind, Number):
            return self.line_of_number(kind)
        if isinstance(kind, Bits):
            return (BIT,) * kind.many
        if isinstance(kind, Call):
            return self.line_of_name(kind.name)
        return self.line_of_items(kind)

    def line_of_number(self, kind):
        many = how_many_integers(kind)
        if kind.width is not None:
            return self.wide(kind.width, many - 1)
        size, short = tight_code(many)
        return self.tight(size, short)

    def wide(self, size, top):
        """The line of the bits whose number is at most top."""
        if top == (1 << size) - 1:
            return (BIT,) * size
        half = 1 << (size - 1)
        if top < half:
            return self.forked(self.wide(size - 1, top), None)
        return self.forked((BIT,) * (size - 1), self.wide(size - 1, top - half))

    def tight(self, size, short):
        """The line of some bits, with one more behind all but the first ones, which are so many."""
        if short == 1 << size:
            return (BIT,) * size
        if short == 0:
            return (BIT,) * (size + 1)
        half = 1 << (size - 1)
        return self.forked(self.tight(size - 1, min(short, half)), self.tight(size - 1, max(short - half, 0)))

    def line_of_items(self, kind):
        item = self.line_of(kind.item)
        if kind.width is None:
            return (self.run(item),)
        return self.tree([self.folded(item * many) for many in range(1 << kind.width)])

    def line_of_choice(self, kind):
        line = None
        for way in kind.ways:
            inside = self.body_of(way.kind) if isinstance(way, Door) else self.line_of(way.kind)
            if inside is not None:
                line = self.with_word(line, way.word, inside)
        return line

    def tails_of(self, kind):
        """For each part and room of a row the line of all from it on."""
        tails = [()]
        for part in kind.parts[::-1]:
            line = tails[0]
            if isinstance(part, Room):
                body = self.body_of(part.kind)
                if body is not None:
                    line = self.with_word(line, part.word, body + line)
            else:
                line = self.line_of(part.kind) + line
            tails.insert(0, self.folded(line))
        return tails

    def body_of(self, kind):
        """The line of a body; None for that of an unknown door or room, if own messages alone are looked at."""
        if kind is not None:
            line = self.line_of(kind)
            return self.tree([self.within(line, left) for left in range(1 << self.count)])
        if self.is_own:
            return None
        return self.tree([(BIT,) * left for left in range(1 << self.count)])

    def within(self, line, left):
        """The line of what takes just so many bits: a message of another line, and a rest."""
        if self.least_of(line) > left:
            return None
        if line == ():
            return None if self.is_own and left > 0 else (BIT,) * left
        if (line, left) not in self.fitted:
            sides = [self.behind(line, bit) for bit in (0, 1)]
            sides = [None if side is None else self.within(side, left - 1) for side in sides]
            self.fitted[(line, left)] = self.forked(sides[0], sides[1])
        return self.fitted[(line, left)]

    def sides(self, symbol):
        """The lines behind the bits that a symbol takes."""
        return [side for side in self.rules[symbol] if side is not None]

    def item_of(self, symbol):
        """The line of the item of a run; None for any other symbol."""
        again = self.rules[symbol][1]
        return again[:-1] if again is not None and again[-1:] == (symbol,) else None

    def reached(self, line):
        """The numbers of all symbols that can come in what a line reads, ascending."""
        found = {}
        waiting = list(line)
        while waiting != []:
            symbol = waiting.pop()
            if symbol not in found:
                found[symbol] = True
                for side in self.sides(symbol):
                    waiting.extend(side)
        return sorted(list(found))


def sooner(one, other):
    """The smaller number of two; None stands for none."""
    if one is None or other is None:
        return other if one is None else one
    return min(one, other)


def common_end(one, other):
    """The number of the symbols with which both lines end."""
    many = 0
    while many < min(len(one), len(other)) and one[-1 - many] == other[-1 - many]:
        many += 1
    return many
