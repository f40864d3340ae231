"""Reading messages bit by bit."""

from roomleft.basics import is_int_within, is_one_bit
from roomleft.editions import kind_name
from roomleft.errors import BadBits, NoBits, NoUndo
from roomleft.reading import read
from roomleft.threads import are_whole, fed, fed_all, first_threads, least_lack


class Reader:
    """Reads one message; for each number of bits taken it keeps the tracks behind them.

    A track is a pair of a thread and the tuple of its events that were not told yet.
    """

    def __init__(self, edition, kind=None):
        self._edition = edition
        self._name = kind_name(edition, kind)
        self._bits = []
        self._tracks = [[(thread, ()) for thread in first_threads(edition.plan.nodes[self._name])]]

    def push(self, bit):
        """Takes a bit and returns the events that are sure by now and were not told."""
        if not is_one_bit(bit):
            raise NoBits()
        tracks = further_tracks(self._tracks[-1], len(self._bits), bit)
        if tracks == []:
            raise BadBits(len(self._bits))
        sure = common_events(tracks)
        self._bits.append(bit)
        self._tracks.append([(thread, without(events_left, sure)) for thread, events_left in tracks])
        return sure

    def bits(self):
        return "".join(self._bits)

    def is_whole(self):
        return are_whole(self._threads())

    def may(self):
        """The bits that can come next."""
        threads = self._threads()
        return "".join([bit for bit in "01" if fed_all(threads, bit) != []])

    def lack(self):
        """The least number of bits until a message is whole."""
        return least_lack(self._threads())

    def undo(self, many=1):
        """Takes back the last bits."""
        if not is_int_within(many, 1, len(self._bits)):
            raise NoUndo()
        del self._bits[-many:]
        del self._tracks[-many:]

    def copy(self):
        """A Reader that has taken the same bits and goes on apart."""
        other = Reader(self._edition, self._name)
        other._bits = list(self._bits)
        other._tracks = list(self._tracks)
        return other

    def _threads(self):
        return [thread for thread, _ in self._tracks[-1]]


def further_tracks(tracks, at, bit):
    further = []
    for thread, waiting in tracks:
        threads, event = fed(thread, bit)
        told = waiting if event is None else waiting + ((at, event),)
        further.extend([(one, told) for one in threads])
    return further


def common_events(tracks):
    """The events that all tracks have: only these come in every message that begins so."""
    _, first = tracks[0]
    return [event for event in first if all([event in waiting for _, waiting in tracks])]


def without(told, sure):
    return tuple([event for event in told if event not in sure])


def events(edition, bits, kind=None):
    """The list of the tuples (at, event) of a whole message."""
    read(edition, bits, kind)
    reader = Reader(edition, kind)
    told = []
    for bit in bits:
        told.extend(reader.push(bit))
    return told
