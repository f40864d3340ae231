"""Damage: bits that are turned, dropped or put in, and what nobody sees of it."""

from roomleft.basics import is_bits, is_int_within, is_one_bit
from roomleft.errors import BadNumber, NoBits
from roomleft.judging import Rows, check_standings
from roomleft.states import END, REFUSED, own_states, read_states, start_of


def turned(bits, at):
    """The bits with one of them turned."""
    check_place(bits, at, 1)
    return bits[:at] + ("1" if bits[at] == "0" else "0") + bits[at + 1:]


def dropped(bits, at):
    """The bits without one of them."""
    check_place(bits, at, 1)
    return bits[:at] + bits[at + 1:]


def put(bits, at, bit):
    """The bits with one more ahead of one of them, or at the end."""
    check_place(bits, at, 0)
    if not is_one_bit(bit):
        raise NoBits()
    return bits[:at] + bit + bits[at:]


def check_place(bits, at, least_behind):
    """Raises NoBits or BadNumber unless this is a place in bits, with so many of them behind it at least."""
    if not is_bits(bits):
        raise NoBits()
    if not is_int_within(at, 0, len(bits) - least_behind):
        raise BadNumber("at")


def unseen(edition):
    """The least own message with a bit that can be turned unseen, with the number of the first such bit, or None."""
    check_standings(edition, edition)
    bits = Turnings(edition).least_message()
    return None if bits is None else (bits, first_unseen(edition, bits))


class Turnings:
    """Goes through all own messages of an edition, the least ones first, with one of their bits turned or none.

    A place is a tuple (state of the own messages, state of what is read, whether a bit was turned).
    The places of a group belong to one row of bits; one that an elder group had is left out.
    """

    def __init__(self, edition):
        self.own_states = own_states(edition)
        self.read_states = read_states(edition)
        self.rows = Rows()
        start = start_of(self.own_states, edition.root), start_of(self.read_states, edition.root), False
        self.met = {start: True}
        self.groups = [[start]]

    def least_message(self):
        """The least own message with a bit that can be turned so that the whole is read again, or None."""
        at = 0
        while at < len(self.groups):
            for bit in (0, 1):
                places = [later for place in self.groups[at] for later in self.behind(place, bit)]
                if (END, END, True) in places:
                    return self.rows.row_at(at) + str(bit)
                self.add_group(at, bit, places)
            at += 1
        return None

    def behind(self, place, bit):
        """The places behind one more bit of the own message."""
        own, other, is_turned = place
        own = self.own_states.move(own, bit)
        if own == REFUSED:
            return []
        places = [(own, self.read_states.move(other, bit), is_turned)]
        if not is_turned:
            places.append((own, self.read_states.move(other, 1 - bit), True))
        return [later for later in places if later[1] != REFUSED]

    def add_group(self, at, bit, places):
        """Adds the group of those places at which nothing has ended and that were not met."""
        group = []
        for place in places:
            if END not in place[:2] and place not in self.met:
                self.met[place] = True
                group.append(place)
        if group != []:
            self.groups.append(group)
            self.rows.lengthen(at, str(bit))


def first_unseen(edition, bits):
    """The number of the first bit of a message that can be turned so that the whole is read again."""
    states = read_states(edition)
    state = start_of(states, edition.root)
    firsts = {}
    for at, bit in enumerate(bits):
        behind = {}
        for other in firsts:
            keep_less(behind, states.move(other, int(bit)), firsts[other])
        keep_less(behind, states.move(state, 1 - int(bit)), at)
        state = states.move(state, int(bit))
        firsts = behind if at == len(bits) - 1 else without_end(behind)
    return firsts[END]


def keep_less(firsts, state, at):
    """Keeps of two turned bits that lead to one state the first one."""
    if state != REFUSED:
        firsts[state] = min(at, firsts.get(state, at))


def without_end(firsts):
    return {state: firsts[state] for state in firsts if state != END}
