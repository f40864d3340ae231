"""The standings of a stream, and bits behind which two of them become one."""

from roomleft.errors import TooMany
from roomleft.states import END, REFUSED, read_states, start_of

MOST_STANDINGS = 300


class Stream:
    """The standings of a stream by numbers, 0 being that of the empty row.

    rows has for each of them the least row that leads to it, and moves the pair of the numbers
    behind a bit 0 and a bit 1, None where it is refused. Nothing here depends on the numbers of
    the states, as they tell in which order the states of the edition were met.
    """

    def __init__(self, edition):
        self.states = read_states(edition)
        start = start_of(self.states, edition.root)
        self.numbers = {start: 0, END: 0}
        self.met = [start]
        self.rows = [""]
        self.moves = []
        while len(self.moves) < len(self.met):
            at = len(self.moves)
            self.moves.append((self.moved(at, 0), self.moved(at, 1)))

    def moved(self, at, bit):
        state = self.states.move(self.met[at], bit)
        if state == REFUSED:
            return None
        if state not in self.numbers:
            if len(self.met) == MOST_STANDINGS:
                raise TooMany(MOST_STANDINGS)
            self.numbers[state] = len(self.met)
            self.met.append(state)
            self.rows.append(self.rows[at] + str(bit))
        return self.numbers[state]

    def all_numbers(self):
        return list(range(len(self.moves)))

    def behind(self, number, bits):
        """The standing behind further bits, None if one of them is refused."""
        for bit in bits:
            if number is None:
                return None
            number = self.moves[number][int(bit)]
        return number

    def all_behind(self, numbers, bits):
        """The standings behind further bits, ascending, but for those that refuse one of them."""
        for bit in bits:
            moved = [self.moves[number][int(bit)] for number in numbers]
            numbers = sorted({number for number in moved if number is not None})
        return numbers


class Meetings:
    """For each pair of standings the bits behind which just one of the two is left, or both are one.

    A pair (one, other) has the smaller number first. firsts has the first one of the least number
    of such bits and the pair behind it, None if nothing more is to do; sizes has this number.
    """

    def __init__(self, stream):
        self.stream = stream
        self.firsts = {}
        self.sizes = {}
        self.origins = {}
        self.waiting = []
        for pair in self.pairs_of(stream.all_numbers()):
            self.look_at(pair)
        at = 0
        while at < len(self.waiting):
            later = self.waiting[at]
            for pair, bit in self.origins.get(later, []):
                self.settle(pair, bit, later)
            at += 1

    def pairs_of(self, numbers):
        return [(one, other) for at, one in enumerate(numbers) for other in numbers[at + 1:]]

    def look_at(self, pair):
        for bit in (0, 1):
            one, other = self.stream.moves[pair[0]][bit], self.stream.moves[pair[1]][bit]
            if one is not None and other is not None and one != other:
                self.origins.setdefault((min(one, other), max(one, other)), []).append((pair, bit))
            elif one is not None or other is not None:
                self.settle(pair, bit, None)

    def settle(self, pair, bit, later):
        if pair not in self.firsts:
            self.firsts[pair] = (bit, later)
            self.sizes[pair] = 1 if later is None else 1 + self.sizes[later]
            self.waiting.append(pair)

    def bits_for(self, pair):
        bits = []
        while pair is not None:
            bit, pair = self.firsts[pair]
            bits.append(str(bit))
        return "".join(bits)

    def nearest(self, numbers):
        """The pair of some standings that takes the fewest bits."""
        return min(self.pairs_of(numbers), key=lambda pair: self.sizes[pair])

    def apart(self):
        """The first pair for which there are no such bits, or None."""
        for pair in self.pairs_of(self.stream.all_numbers()):
            if pair not in self.firsts:
                return pair
        return None
