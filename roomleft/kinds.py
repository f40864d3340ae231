"""The kinds of messages, and the ways and parts from which choices and rows are made."""

from roomleft.basics import is_int, is_int_within, is_name, is_word
from roomleft.errors import BadKind


class Nothing:
    """The one message without bits."""

    def __eq__(self, other):
        return isinstance(other, Nothing)


class Number:
    """The integers from low to high."""

    def __init__(self, low, high, width=None):
        if not is_int(low):
            raise BadKind("low")
        if not is_int(high) or not 2 <= high - low + 1 <= 2 ** 60:
            raise BadKind("high")
        if width is not None:
            if not is_int_within(width, 1, 60) or 1 << width < high - low + 1:
                raise BadKind("width")
        self.low = low
        self.high = high
        self.width = width

    def __eq__(self, other):
        return (
            isinstance(other, Number)
            and self.low == other.low
            and self.high == other.high
            and self.width == other.width
        )


class Bits:
    """Any bits of one length."""

    def __init__(self, many):
        if not is_int_within(many, 1, 16):
            raise BadKind("many")
        self.many = many

    def __eq__(self, other):
        return isinstance(other, Bits) and self.many == other.many


class Call:
    """The kind that the edition has under a name."""

    def __init__(self, name):
        if not is_name(name):
            raise BadKind("name")
        self.name = name

    def __eq__(self, other):
        return isinstance(other, Call) and self.name == other.name


class Items:
    """Any number of messages of one kind, behind one another."""

    def __init__(self, item, width=None):
        if not isinstance(item, (Number, Bits, Call)):
            raise BadKind("item")
        if width is not None and not is_int_within(width, 1, 3):
            raise BadKind("width")
        self.item = item
        self.width = width

    def __eq__(self, other):
        return isinstance(other, Items) and self.item == other.item and self.width == other.width


def is_simple(thing):
    return isinstance(thing, (Number, Bits, Items, Call))


class Way:
    """One of the things that a choice can be."""

    def __init__(self, word, name, kind):
        check_word_and_name(word, name)
        if not is_simple(kind) and not isinstance(kind, Nothing):
            raise BadKind("kind")
        self.word = word
        self.name = name
        self.kind = kind

    def __eq__(self, other):
        return (
            isinstance(other, Way)
            and self.word == other.word
            and self.name == other.name
            and self.kind == other.kind
        )


class Door:
    """A way with a body, which is stepped over by whoever does not know its kind."""

    def __init__(self, word, name, kind):
        check_word_and_name(word, name)
        if kind is not None and not is_simple(kind) and not isinstance(kind, Nothing):
            raise BadKind("kind")
        self.word = word
        self.name = name
        self.kind = kind

    def __eq__(self, other):
        return (
            isinstance(other, Door)
            and self.word == other.word
            and self.name == other.name
            and self.kind == other.kind
        )


class Part:
    """A message within a row."""

    def __init__(self, name, kind):
        if not is_name(name):
            raise BadKind("name")
        if not is_simple(kind):
            raise BadKind("kind")
        self.name = name
        self.kind = kind

    def __eq__(self, other):
        return isinstance(other, Part) and self.name == other.name and self.kind == other.kind


class Room:
    """A place within a row where a body may stand."""

    def __init__(self, word, name, kind):
        check_word_and_name(word, name)
        if kind is not None and not is_simple(kind):
            raise BadKind("kind")
        self.word = word
        self.name = name
        self.kind = kind

    def __eq__(self, other):
        return (
            isinstance(other, Room)
            and self.word == other.word
            and self.name == other.name
            and self.kind == other.kind
        )


class Choice:
    """One of several ways and doors."""

    def __init__(self, ways):
        if not are_ways(ways):
            raise BadKind("ways")
        self.ways = tuple(ways)

    def __eq__(self, other):
        return isinstance(other, Choice) and self.ways == other.ways


class Row:
    """Several parts behind one another, with rooms ahead of them."""

    def __init__(self, parts):
        if not are_parts(parts):
            raise BadKind("parts")
        self.parts = tuple(parts)

    def __eq__(self, other):
        return isinstance(other, Row) and self.parts == other.parts


def check_word_and_name(word, name):
    if not is_word(word):
        raise BadKind("word")
    if not is_name(name):
        raise BadKind("name")


def are_ways(thing):
    if not isinstance(thing, (list, tuple)) or not 1 <= len(thing) <= 12:
        return False
    if not all([isinstance(way, (Way, Door)) for way in thing]):
        return False
    if not any([isinstance(way, Way) for way in thing]):
        return False
    return have_unlike_names(thing) and are_apart([way.word for way in thing])


def are_parts(thing):
    if not isinstance(thing, (list, tuple)) or not 1 <= len(thing) <= 8:
        return False
    if not all([isinstance(part, (Part, Room)) for part in thing]):
        return False
    return isinstance(thing[-1], Part) and have_unlike_names(thing)


def have_unlike_names(things):
    return len({thing.name for thing in things}) == len(things)


def are_apart(words):
    """Whether no word begins another one or is equal to it."""
    for at, word in enumerate(words):
        for other in words[at + 1:]:
            if word.startswith(other) or other.startswith(word):
                return False
    return True
