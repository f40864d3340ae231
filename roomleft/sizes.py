"""How many own messages there are, and how long they are."""

from roomleft.basics import is_int_within
from roomleft.counts import MOST_BITS, counts_of, slot
from roomleft.editions import kind_name
from roomleft.errors import BadNumber
from roomleft.states import own_states


def how_many(edition, length, kind=None):
    """The number of the own messages with so many bits."""
    name = kind_name(edition, kind)
    if not is_int_within(length, 0, MOST_BITS):
        raise BadNumber("length")
    return slot(counts_of(edition).of_line(own_states(edition).grammar.line_of_name(name)), length)


def least_size(edition, kind=None):
    """The least number of bits of an own message."""
    name = kind_name(edition, kind)
    grammar = own_states(edition).grammar
    return grammar.least_of(grammar.line_of_name(name))


def greatest_size(edition, kind=None):
    """The greatest number of bits of an own message, or None."""
    name = kind_name(edition, kind)
    grammar = own_states(edition).grammar
    line = grammar.line_of_name(name)
    greatest = {}
    for symbol in grammar.reached(line):
        if grammar.item_of(symbol) is not None:
            return None
        sizes = [sum([greatest[later] for later in side]) for side in grammar.sides(symbol)]
        greatest[symbol] = 1 + max(sizes)
    return sum([greatest[symbol] for symbol in line])
