"""What a reader of one edition makes of the own messages of another one."""

from roomleft.errors import BadBits, Left, NoOwn, TooFew, TooMany
from roomleft.pairs import Pairs
from roomleft.readers import events
from roomleft.reading import is_own, passed_bits
from roomleft.states import END, REFUSED, own_states, read_states, start_of
from roomleft.steps import are_same
from roomleft.streams import MOST_STANDINGS, standings

# What the reader has behind a message of its own that ended earlier.
OVER = -2


class Verdict:
    """The least own message of each sort, or None."""

    def __init__(self, refused, short, in_step, stepped, other):
        self.refused = refused
        self.short = short
        self.in_step = in_step
        self.stepped = stepped
        self.other = other

    def __eq__(self, other):
        return (
            isinstance(other, Verdict)
            and are_same(self.refused, other.refused)
            and are_same(self.short, other.short)
            and are_same(self.in_step, other.in_step)
            and are_same(self.stepped, other.stepped)
            and are_same(self.other, other.other)
        )


def sort_of(writer, reader, bits):
    """What an own message of the writer is for the reader."""
    told = events(writer, bits)
    if not is_own(writer, bits):
        raise NoOwn()
    try:
        heard = events(reader, bits)
    except BadBits:
        return "refused"
    except (TooFew, Left):
        return "short"
    if told == heard:
        return "in step"
    passed = {at: True for at in passed_bits(reader, bits)}
    if [one for one in told if one[0] not in passed] == heard:
        return "stepped"
    return "other"


def check_standings(one, other):
    """Raises TooMany where the standings of one edition, or those of both multiplied, are too many."""
    if standings(one) * standings(other) > MOST_STANDINGS:
        raise TooMany(MOST_STANDINGS)


def judge(writer, reader):
    """The Verdict of the least own messages of the writer of each sort."""
    check_standings(writer, reader)
    trial = Trial(writer, reader)
    found = trial.least_messages()
    return Verdict(
        found.get("refused"), found.get("short"), found.get("in step"), found.get("stepped"), found.get("other")
    )


class Trial:
    """Goes through all own messages of a writer, the least ones first, with what a reader makes of them.

    A place is a tuple (state of the writer, state of the reader or OVER or REFUSED, pairs);
    of places that go on in the same way the first one alone is followed.
    """

    def __init__(self, writer, reader):
        self.own_states = own_states(writer)
        self.read_states = read_states(reader)
        self.pairs = Pairs(writer, reader)
        self.rows = Rows()
        self.places = []
        self.met = {}
        starts = start_of(self.own_states, writer.root), start_of(self.read_states, reader.root)
        self.follow((starts[0], starts[1], self.pairs.first()))

    def follow(self, place):
        """Whether a place is followed."""
        key = (place[0], place[1], self.pairs.key(place[2]))
        if key in self.met:
            return False
        self.met[key] = True
        self.places.append(place)
        return True

    def least_messages(self):
        """A dict of the sorts to the least messages that are so."""
        found = {}
        at = 0
        while at < len(self.places) and len(found) < 5:
            for bit in "01":
                place = self.further(self.places[at], bit)
                if place[0] == END:
                    sort = sort_at(place)
                    if sort not in found:
                        found[sort] = self.rows.row_at(at) + bit
                elif place[0] != REFUSED and self.follow(place):
                    self.rows.lengthen(at, bit)
            at += 1
        return found

    def further(self, place, bit):
        """The place behind one more bit."""
        state, other, pairs = place
        state = self.own_states.move(state, int(bit))
        if state == REFUSED:
            return state, other, []
        if other == END:
            other = OVER
        elif other != OVER and other != REFUSED:
            other = self.read_states.move(other, int(bit))
        if other == OVER or other == REFUSED:
            return state, other, []
        return state, other, self.pairs.further(pairs, bit)


def sort_at(place):
    """The sort of a message that ends at a place."""
    _, other, pairs = place
    if other == REFUSED:
        return "refused"
    if other != END:
        return "short"
    for writer, reader, is_stepped in pairs:
        if writer[1] == () and reader[1] == ():
            return "stepped" if is_stepped else "in step"
    return "other"


class Rows:
    """Rows of bits by number: the empty one, and others that are one bit longer than one ahead of them."""

    def __init__(self):
        self.begins = [None]
        self.lasts = [""]

    def lengthen(self, number, bit):
        """Adds the row that is that one with this bit behind it."""
        self.begins.append(number)
        self.lasts.append(bit)

    def row_at(self, number):
        bits = []
        while number is not None:
            bits.append(self.lasts[number])
            number = self.begins[number]
        return "".join(bits[::-1])


def alike_reading(one, other):
    """The least bits that one of two editions reads and the other does not, or None."""
    check_standings(one, other)
    machines = (read_states(one), read_states(other))
    rows = Rows()
    places = [(start_of(machines[0], one.root), start_of(machines[1], other.root))]
    met = {places[0]: True}
    at = 0
    while at < len(places):
        for bit in "01":
            place = both_moved(machines, places[at], bit)
            if END in place:
                if place != (END, END):
                    return rows.row_at(at) + bit
            elif place != (REFUSED, REFUSED) and place not in met:
                met[place] = True
                places.append(place)
                rows.lengthen(at, bit)
        at += 1
    return None


def both_moved(machines, place, bit):
    """The states of both behind one more bit."""
    return tuple([
        REFUSED if state == REFUSED else machine.move(state, int(bit)) for machine, state in zip(machines, place)
    ])
