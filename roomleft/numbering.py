"""The numbers of own messages, by their lengths and then by their bits."""

from roomleft.basics import is_int
from roomleft.counts import MOST_BITS, counts_of, slot
from roomleft.editions import kind_name
from roomleft.errors import BadNumber, NoOwn
from roomleft.reading import is_own, read
from roomleft.states import own_states, start_of


def message_at(edition, number, kind=None):
    """The bits of the own message with a number."""
    name = kind_name(edition, kind)
    if not is_int(number) or number < 0:
        raise BadNumber("number")
    counts = counts_of(edition)
    packed = packed_counts(edition, name)
    for length in range(MOST_BITS + 1):
        many = slot(packed, length)
        if number < many:
            return message_of_length(counts, start_of(own_states(edition), name), length, number)
        number -= many
    raise BadNumber("number")


def packed_counts(edition, name):
    return counts_of(edition).of_line(own_states(edition).grammar.line_of_name(name))


def message_of_length(counts, state, length, number):
    """The bits that have a number among all own ways to go on from a state for just so many bits."""
    bits = ""
    for left in range(length - 1, -1, -1):
        zero = counts.machine.move(state, 0)
        many = counts.ahead(zero, left)
        if number < many:
            bits += "0"
            state = zero
        else:
            bits += "1"
            state = counts.machine.move(state, 1)
            number -= many
    return bits


def number_of(edition, bits, kind=None):
    """The number of an own message."""
    read(edition, bits, kind)
    if not is_own(edition, bits, kind):
        raise NoOwn()
    if len(bits) > MOST_BITS:
        raise BadNumber("length")
    name = kind_name(edition, kind)
    counts = counts_of(edition)
    packed = packed_counts(edition, name)
    number = sum([slot(packed, length) for length in range(len(bits))])
    state = start_of(own_states(edition), name)
    for at, bit in enumerate(bits):
        if bit == "1":
            number += counts.ahead(counts.machine.move(state, 0), len(bits) - at - 1)
        state = counts.machine.move(state, int(bit))
    return number
