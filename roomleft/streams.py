"""Streams: messages of the root kind behind one another."""

from roomleft.basics import is_bits
from roomleft.editions import kind_name
from roomleft.errors import BadBits, NoBits, TooMany
from roomleft.meetings import Meetings, Stream
from roomleft.reading import read_first
from roomleft.states import END, REFUSED, many_standings, read_states, start_of

MOST_STANDINGS = 20000


def read_all(edition, bits):
    """The list of the values of a stream."""
    if not is_bits(bits):
        raise NoBits()
    values = []
    at = 0
    while at < len(bits):
        try:
            value, used = read_first(edition, bits[at:])
        except BadBits as error:
            raise BadBits(at + error.at) from None
        values.append(value)
        at += used
    return values


def same_standing(edition, one, other):
    """Whether two rows of bits lead to one standing of a stream."""
    state = state_behind(edition, one)
    return read_states(edition).go_on_alike(state, state_behind(edition, other))


def state_behind(edition, bits):
    """The state behind a row that begins a stream."""
    if not is_bits(bits):
        raise NoBits()
    states = read_states(edition)
    start = start_of(states, edition.root)
    state = start
    for at, bit in enumerate(bits):
        state = states.move(state, int(bit))
        if state == REFUSED:
            raise BadBits(at)
        if state == END:
            state = start
    return state


def standings(edition, kind=None):
    """The number of the standings of a kind."""
    name = kind_name(edition, kind)
    states = read_states(edition)
    many = many_standings(states, start_of(states, name), MOST_STANDINGS)
    if many > MOST_STANDINGS:
        raise TooMany(MOST_STANDINGS)
    return many


def into_step(edition):
    """Bits that bring into step, or None."""
    stream = Stream(edition)
    meetings = Meetings(stream)
    if meetings.apart() is not None:
        return None
    row = []
    left = stream.all_numbers()
    while len(left) > 1:
        bits = meetings.bits_for(meetings.nearest(left))
        row.append(bits)
        left = stream.all_behind(left, bits)
    return "".join(row)


def brings(edition, bits):
    """Whether something is bits that bring into step."""
    stream = Stream(edition)
    return is_bits(bits) and len(stream.all_behind(stream.all_numbers(), bits)) == 1


def never_together(edition):
    """A pair of rows whose standings no bits lead together or part by refusing; None if there is none."""
    stream = Stream(edition)
    pair = Meetings(stream).apart()
    return None if pair is None else (stream.rows[pair[0]], stream.rows[pair[1]])


def are_never_together(edition, one, other):
    """Whether two things are such a pair of rows."""
    stream = Stream(edition)
    if not is_bits(one) or not is_bits(other):
        return False
    first, second = stream.behind(0, one), stream.behind(0, other)
    if first is None or second is None or first == second:
        return False
    return (min(first, second), max(first, second)) not in Meetings(stream).firsts
