"""How many own messages there are of each length up to 200.

These numbers are packed into one integer, with SLOT bits for each length: what is packed is
multiplied as messages are put behind one another. As no message begins another one, there are
at most 2 to the power of the length of them, so each number fits into its slot; what lies
beyond the last slot is cut off.
"""

from roomleft.states import END, REFUSED, own_states

MOST_BITS = 200
SLOT = 208
SLOTS = 201


class Counts:
    """The packed numbers of the symbols and states of own messages, as far as they were asked for."""

    def __init__(self, states):
        self.machine = states
        self.grammar = states.grammar
        self.of_symbols = {}
        self.of_states = {END: 1}

    def of_line(self, line):
        for symbol in self.grammar.reached([one for one in line if one not in self.of_symbols]):
            if symbol not in self.of_symbols:
                self.of_symbols[symbol] = self.of_symbol(symbol)
        return self.joined_counts(line)

    def of_symbol(self, symbol):
        """Where the symbols of its rule are known."""
        item = self.grammar.item_of(symbol)
        if item is not None:
            return self.of_many(one_longer(self.joined_counts(item)))
        return one_longer(sum([self.joined_counts(side) for side in self.grammar.sides(symbol)]))

    def joined_counts(self, line):
        if self.grammar.least_of(line) > MOST_BITS:
            return 0
        packed = 1
        for symbol in line:
            packed = trimmed(packed * self.of_symbols[symbol])
        return packed

    def of_many(self, packed):
        """Of any number of messages that are counted so, and one bit: the sum of all powers, by doubling."""
        total = 1
        while packed != 0:
            total = trimmed(total + total * packed)
            packed = trimmed(packed * packed)
        return one_longer(total)

    def ahead(self, state, length):
        """The number of the ways to go on from a state for just so many bits."""
        if state == REFUSED:
            return 0
        waiting = []
        while state not in self.of_states:
            waiting.append(state)
            state = self.machine.nexts[state]
        packed = self.of_states[state]
        for later in waiting[::-1]:
            packed = trimmed(packed * self.of_line((self.machine.firsts[later],)))
            self.of_states[later] = packed
            state = later
        return slot(packed, length)


def trimmed(packed):
    return packed & ((1 << (SLOT * SLOTS)) - 1)


def one_longer(packed):
    return trimmed(packed << SLOT)


def slot(packed, length):
    return (packed >> (SLOT * length)) & ((1 << SLOT) - 1)


def counts_of(edition):
    states = own_states(edition)
    if "own" not in edition.plan.counts:
        edition.plan.counts["own"] = Counts(states)
    return edition.plan.counts["own"]
