"""The nodes of an edition's kinds."""

from roomleft.codes import how_many_integers
from roomleft.kinds import Bits, Call, Choice, Door, Items, Nothing, Number, Room
from roomleft.nodes import (
    BitsNode, BodyNode, ChoiceNode, CountedNode, NothingNode, RowNode, RunNode, TightNode, WideNode,
)


class Plan:
    """The kinds of an edition and, for each of them, the node that reads it.

    states and counts keep what was found out about the edition's bits, so that it is found out once.
    """

    def __init__(self, named, count):
        self.named = named
        self.count = count
        self.states = {}
        self.counts = {}
        self.nodes = {}
        self.shared = {}
        for name in named:
            self.node_of(name)

    def node_of(self, name):
        """The node of a named kind; those of the kinds that it calls are made first."""
        if name not in self.nodes:
            self.nodes[name] = self.made(self.named[name])
        return self.nodes[name]

    def made(self, kind):
        if isinstance(kind, Nothing):
            return self.same(("nothing",), NothingNode())
        if isinstance(kind, Number):
            return self.same(("number", kind.low, kind.high, kind.width), number_node(kind))
        if isinstance(kind, Bits):
            return self.same(("bits", kind.many), BitsNode(kind.many))
        if isinstance(kind, Call):
            return self.node_of(kind.name)
        if isinstance(kind, Items):
            item = self.made(kind.item)
            return self.same(("items", item, kind.width), items_node(item, kind.width))
        if isinstance(kind, Choice):
            ways = tuple([self.way_made(way) for way in kind.ways])
            return self.same(("choice", ways), ChoiceNode(ways))
        parts = tuple([self.part_made(part) for part in kind.parts])
        return self.same(("row", parts), RowNode(parts))

    def same(self, shape, node):
        """The first node of this shape, so that equal places in unlike kinds are one place."""
        return self.shared.setdefault(shape, node)

    def way_made(self, way):
        if isinstance(way, Door):
            return way.word, "door", way.name, self.body_made(way.kind)
        return way.word, "way", way.name, self.made(way.kind)

    def part_made(self, part):
        if isinstance(part, Room):
            return part.word, part.name, self.body_made(part.kind)
        return "", part.name, self.made(part.kind)

    def body_made(self, kind):
        inside = self.made(Nothing() if kind is None else kind)
        return self.same(("body", inside, kind is not None), BodyNode(self.count, inside, kind is not None))


def number_node(kind):
    many = how_many_integers(kind)
    if kind.width is None:
        return TightNode(kind.low, many)
    return WideNode(kind.low, many, kind.width)


def items_node(item, width):
    if width is None:
        return RunNode(item)
    return CountedNode(item, width)
