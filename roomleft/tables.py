"""Tables: which kinds of a reader's edition take in all own messages of a writer's one.

No kind calls itself, so what a triple asks of the table around it is found by looking at its two
kinds alone; and what "let" asks for, "alike" asks for, too.
"""

from roomleft.codes import number_bits
from roomleft.kinds import Bits, Call, Choice, Door, Items, Nothing, Number, Part, Room, Row, Way

WORDS = ("alike", "let")


def table(writer, reader):
    """The least table by which the roots are alike, ascending, or None."""
    wants = Wants(writer, reader)
    waiting = wants.of_roots()
    found = {}
    while waiting is not None and waiting != []:
        triple = waiting.pop()
        if triple not in found:
            found[triple] = True
            waiting = joined([waiting, wants.of_triple(triple)])
    if waiting is None:
        return None
    return sorted([triple for triple in found if triple[2] == "alike" or alike_one(triple) not in found])


def check_table(writer, reader, thing):
    """Whether something is a table by which the roots are alike."""
    wants = Wants(writer, reader)
    if not isinstance(thing, list) or not all([wants.is_triple(one) for one in thing]):
        return False
    there = {triple: True for triple in thing}
    wanted = joined([wants.of_roots()] + [wants.of_triple(triple) for triple in thing])
    if len(there) < len(thing) or wanted is None:
        return False
    return all([triple in there or alike_one(triple) in there for triple in wanted])


def alike_one(triple):
    """The triple with the same names that does for this one, too."""
    return triple[0], triple[1], "alike"


def joined(lists):
    """All triples of some lists; None if one of them is None."""
    if None in lists:
        return None
    return [triple for one in lists for triple in one]


class Wants:
    """What must stand in a table of two editions.

    Each method returns a list of triples, in which one with "alike" does for one with "let";
    or None where no table will do.
    """

    def __init__(self, writer, reader):
        self.roots = (Call(writer.root), Call(reader.root))
        self.writer_kinds = writer.plan.named
        self.reader_kinds = reader.plan.named
        self.have_equal_counts = writer.count == reader.count

    def is_triple(self, thing):
        if not isinstance(thing, tuple) or len(thing) != 3 or not all([isinstance(one, str) for one in thing]):
            return False
        kind = self.writer_kinds.get(thing[0])
        other = self.reader_kinds.get(thing[1])
        return thing[2] in WORDS and (are_choices(kind, other) or are_rows(kind, other))

    def of_roots(self):
        return self.of_kinds(self.roots[0], self.roots[1], "alike")

    def of_triple(self, triple):
        kind = self.writer_kinds[triple[0]]
        other = self.reader_kinds[triple[1]]
        if isinstance(kind, Choice):
            return self.of_choices(kind, other, triple[2])
        return self.of_rows(kind, other, triple[2])

    def of_kinds(self, kind, other, word):
        """So that the kinds are alike, or that the other one lets the first one."""
        name, kind = resolved(self.writer_kinds, kind)
        other_name, other = resolved(self.reader_kinds, other)
        if isinstance(other, Nothing):
            return [] if word == "let" or isinstance(kind, Nothing) else None
        if are_choices(kind, other) or are_rows(kind, other):
            return [(name, other_name, word)]
        if isinstance(kind, Items) and isinstance(other, Items) and kind.width == other.width:
            # Behind the only item that there can be, the message is over.
            return self.of_kinds(kind.item, other.item, word if kind.width == 1 else "alike")
        return [] if are_alike_numbers(kind, other) or are_alike_bits(kind, other) else None

    def of_choices(self, kind, other, word):
        ways = {(way.word, way.name): way for way in other.ways}
        known = [way for way in kind.ways if way.kind is not None]
        return joined([self.of_ways(way, ways.get((way.word, way.name)), word) for way in known])

    def of_ways(self, way, other, word):
        if isinstance(way, Way) and isinstance(other, Way):
            return self.of_kinds(way.kind, other.kind, word)
        if isinstance(way, Door) and isinstance(other, Door):
            return self.of_bodies(way, other)
        return None

    def of_bodies(self, inner, other):
        """Of a known door or room of the writer, and that of the reader."""
        if not self.have_equal_counts:
            return None
        return [] if other.kind is None else self.of_kinds(inner.kind, other.kind, "let")

    def of_rows(self, kind, other, word):
        parts = kind.parts if word == "alike" else begin_with_parts(kind.parts, len(parts_alone(other.parts)))
        parts = [part for part in parts if part.kind is not None]
        shapes = [shape_of(part) for part in parts]
        others = [part for part in other.parts if isinstance(part, Part) or shape_of(part) in shapes]
        if [shape_of(part) for part in others] != shapes:
            return None
        wanted = []
        for part, its in zip(parts, others):
            if isinstance(part, Room):
                wanted.append(self.of_bodies(part, its))
            else:
                wanted.append(self.of_kinds(part.kind, its.kind, word if its.name == others[-1].name else "alike"))
        return joined(wanted)


def resolved(named, kind):
    """The pair of the name, None if there is none, and the kind to which the Calls lead."""
    name = None
    while isinstance(kind, Call):
        name = kind.name
        kind = named[name]
    return name, kind


def are_choices(kind, other):
    return isinstance(kind, Choice) and isinstance(other, Choice)


def are_rows(kind, other):
    return isinstance(kind, Row) and isinstance(other, Row)


def are_alike_bits(kind, other):
    return isinstance(kind, Bits) and isinstance(other, Bits) and kind.many == other.many


def are_alike_numbers(kind, other):
    """Whether each integer of the first one is written by the same bits by the other one."""
    if not isinstance(kind, Number) or not isinstance(other, Number):
        return False
    if kind.low < other.low or kind.high > other.high:
        return False
    # With equal bits at both ends both go over to longer bits at the same integer, if they do.
    return all([number_bits(kind, end) == number_bits(other, end) for end in (kind.low, kind.high)])


def parts_alone(parts):
    return [part for part in parts if isinstance(part, Part)]


def begin_with_parts(parts, many):
    """The beginning up to and with the last one of so many parts; all if there are not so many."""
    begin = []
    for part in parts:
        if len(parts_alone(begin)) < many:
            begin.append(part)
    return begin


def shape_of(part):
    """What must be the same of two parts or two rooms."""
    return (part.word, part.name) if isinstance(part, Room) else ("", part.name)
