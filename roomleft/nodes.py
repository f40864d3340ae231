"""The places of messages, and what each of them does with a bit.

A THREAD is one way to take the bits so far: a pair (left, stack). The stack
has a frame (node, a, b) for each node that is under way, the innermost one
last; a and b are for the node alone to read. The last frame is the one that
takes the next bit; a whole message has an empty stack. left is the number of
bits that are left in the innermost body, or NO_BODY outside of all bodies.

Every node has
- least: the least number of bits of a message that is read;
- begin(left, below): the threads ahead of its first bit, above these frames;
- feed(left, below, a, b, bit): the threads behind a bit, and what is told at
  this bit, a pair (word, thing), or None;
- owed(a, b): the least number of bits that this node itself still needs, less
  those of a node above it; NEVER if there is no such number.
A node that others can stand above has, moreover, resume(left, below, a, b):
the threads behind the end of the one above; piece(a, b): the names that it
gives to the path of what is above it; and is_spent(a, b): whether it ends as
soon as the one above does.
"""

from roomleft.codes import tight_code

NO_BODY = -1
NEVER = -1


def ended(left, below):
    """The threads behind the end of a message that stood above these frames."""
    if below == ():
        return [(left, ())]
    node, a, b = below[-1]
    return node.resume(left, below[:-1], a, b)


class NothingNode:
    """No bits at all, so it has no frames either."""

    def __init__(self):
        self.least = 0

    def begin(self, left, below):
        return ended(left, below)


class TightNode:
    """A Number without width: a bits of the short code are left, b of the codes that go on so are short."""

    def __init__(self, low, many):
        self.low = low
        self.size, self.bar = tight_code(many)
        self.least = self.size

    def begin(self, left, below):
        return [(left, below + ((self, self.size, self.bar),))]

    def owed(self, a, b):
        return a if b > 0 else a + 1

    def feed(self, left, below, a, b, bit):
        if a == 0:
            return ended(left, below), ("number", self.low - self.bar)
        half = 1 << (a - 1)
        short = max(b - half, 0) if bit == "1" else min(b, half)
        if a == 1 and short > 0:
            return ended(left, below), ("number", self.low)
        return [(left, below + ((self, a - 1, short),))], None


class WideNode:
    """A Number with a width: a bits are left, and their number is at most b."""

    def __init__(self, low, many, width):
        self.low = low
        self.top = many - 1
        self.least = width

    def begin(self, left, below):
        return [(left, below + ((self, self.least, self.top),))]

    def owed(self, a, b):
        return a

    def feed(self, left, below, a, b, bit):
        half = 1 << (a - 1)
        top = b - half if bit == "1" else min(b, half - 1)
        if top < 0:
            return [], None
        if a == 1:
            return ended(left, below), ("number", self.low)
        return [(left, below + ((self, a - 1, top),))], None


class BitsNode:
    """Any bits: a of them are left."""

    def __init__(self, many):
        self.least = many

    def begin(self, left, below):
        return [(left, below + ((self, self.least, 0),))]

    def owed(self, a, b):
        return a

    def feed(self, left, below, a, b, bit):
        if a == 1:
            return ended(left, below), ("bits", self.least)
        return [(left, below + ((self, a - 1, 0),))], None


class RunNode:
    """An Items without width: a is 1 within an item, 0 ahead of the bit that tells whether one comes."""

    def __init__(self, item):
        self.inside = item
        self.least = 1

    def begin(self, left, below):
        return [(left, below + ((self, 0, 0),))]

    def owed(self, a, b):
        return 1

    def feed(self, left, below, a, b, bit):
        if bit == "0":
            return ended(left, below), ("end", 0)
        return self.inside.begin(left, below + ((self, 1, 0),)), ("more", 0)

    def resume(self, left, below, a, b):
        return self.begin(left, below)

    def piece(self, a, b):
        return ("*",)

    def is_spent(self, a, b):
        return False


class CountedNode:
    """An Items with a width: a bits of the count are left and b is the number of those that were read.

    Within an item a is 0, and b is the number of the items behind it.
    """

    def __init__(self, item, width):
        self.inside = item
        self.width = width
        self.least = width

    def begin(self, left, below):
        return [(left, below + ((self, self.width, 0),))]

    def owed(self, a, b):
        return a + (b << a) * self.inside.least

    def feed(self, left, below, a, b, bit):
        number = 2 * b + int(bit)
        if a == 1:
            return self.go_on(left, below, number), ("count", self.width)
        return [(left, below + ((self, a - 1, number),))], None

    def resume(self, left, below, a, b):
        return self.go_on(left, below, b)

    def go_on(self, left, below, items):
        if items == 0:
            return ended(left, below)
        return self.inside.begin(left, below + ((self, 0, items - 1),))

    def piece(self, a, b):
        return ("*",)

    def is_spent(self, a, b):
        return b == 0


class ChoiceNode:
    """A Choice: a has the bits of the word so far, b is NO_WAY; behind the word b is the number of the way."""

    NO_WAY = -1

    def __init__(self, ways):
        """ways has for each way a tuple (word, what is told, name, node)."""
        self.told = []
        self.inner = []
        self.numbers = {}
        self.begins = {}
        for number, (word, what, name, node) in enumerate(ways):
            self.told.append((what, name))
            self.inner.append(node)
            self.numbers[word] = number
            for size in range(len(word)):
                due = len(word) - size + node.least
                self.begins[word[:size]] = min(due, self.begins.get(word[:size], due))
        self.least = self.begins[""]

    def begin(self, left, below):
        return [(left, below + ((self, "", self.NO_WAY),))]

    def owed(self, a, b):
        return self.begins[a] if b == self.NO_WAY else 0

    def feed(self, left, below, a, b, bit):
        word = a + bit
        if word in self.numbers:
            number = self.numbers[word]
            return self.inner[number].begin(left, below + ((self, "", number),)), self.told[number]
        if word in self.begins:
            return [(left, below + ((self, word, self.NO_WAY),))], None
        return [], None

    def resume(self, left, below, a, b):
        return ended(left, below)

    def piece(self, a, b):
        return (self.told[b][1],)

    def is_spent(self, a, b):
        return True


class RowNode:
    """A Row: a is the number of a part or room, b is INSIDE, or the number of bits read of a room's word."""

    INSIDE = -1

    def __init__(self, parts):
        """parts has for each part a tuple (word, name, node), with an empty word unless it is a room."""
        self.words = []
        self.names = []
        self.inner = []
        for word, name, node in parts:
            self.words.append(word)
            self.names.append(name)
            self.inner.append(node)
        needs = [node.least if word == "" else 0 for word, _, node in parts]
        self.dues = [sum(needs[number:]) for number in range(len(needs) + 1)]
        self.least = self.dues[0]

    def begin(self, left, below):
        return self.begin_at(left, below, 0)

    def begin_at(self, left, below, number):
        """The threads ahead of a part or room, each room on the way to the next part being filled or not."""
        threads = []
        while number < len(self.words):
            if self.words[number] == "":
                threads.extend(self.inner[number].begin(left, below + ((self, number, self.INSIDE),)))
                return threads
            threads.append((left, below + ((self, number, 0),)))
            number += 1
        return ended(left, below)

    def owed(self, a, b):
        if b == self.INSIDE:
            return self.dues[a + 1]
        return len(self.words[a]) - b + self.inner[a].least + self.dues[a + 1]

    def feed(self, left, below, a, b, bit):
        word = self.words[a]
        if word[b] != bit:
            return [], None
        if b + 1 < len(word):
            return [(left, below + ((self, a, b + 1),))], None
        return self.inner[a].begin(left, below + ((self, a, self.INSIDE),)), ("room", self.names[a])

    def resume(self, left, below, a, b):
        return self.begin_at(left, below, a + 1)

    def piece(self, a, b):
        return (self.names[a],)

    def is_spent(self, a, b):
        return a + 1 == len(self.names)


class BodyNode:
    """The body of a door or room: a bits of the count are left, and b is the number of those that were read.

    Behind the count b is the left of the body around this one, less all bits
    of this one, or NO_BODY; a is then INSIDE in the message, AFTER in the rest.
    """

    INSIDE = 0
    AFTER = -1

    def __init__(self, count, inside, is_known):
        self.size = count
        self.inside = inside
        self.told = ("size", count) if is_known else None
        self.least = count + inside.least

    def begin(self, left, below):
        return [(left, below + ((self, self.size, 0),))]

    def is_within(self, a):
        """Whether a frame with this a bounds what is above it."""
        return a == self.INSIDE or a == self.AFTER

    def owed(self, a, b):
        """Of the count alone: behind it, left is what is owed."""
        low = b << a
        due = max(low, self.inside.least)
        return a + due if due < low + (1 << a) else NEVER

    def feed(self, left, below, a, b, bit):
        if a == self.AFTER:
            return self.go_on(left, below, b), None
        number = 2 * b + int(bit)
        if a > 1:
            return [(left, below + ((self, a - 1, number),))], None
        outer = NO_BODY if left == NO_BODY else left - number
        return self.inside.begin(number, below + ((self, self.INSIDE, outer),)), self.told

    def resume(self, left, below, a, b):
        return self.go_on(left, below, b)

    def go_on(self, left, below, outer):
        if left == 0:
            return ended(outer, below)
        return [(left, below + ((self, self.AFTER, outer),))]

    def piece(self, a, b):
        return ()

    def is_spent(self, a, b):
        return False

    def is_stepping_over(self, a):
        """Whether the next bit is one of an unknown body, or of a rest."""
        return self.told is None or a == self.AFTER
