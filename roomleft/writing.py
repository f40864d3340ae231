"""Writing values as messages."""

from roomleft.basics import is_bits, is_int
from roomleft.codes import bits_of, number_bits
from roomleft.editions import kind_name
from roomleft.errors import BadValue
from roomleft.kinds import Bits, Call, Choice, Door, Items, Nothing, Number, Room


def written(edition, value, kind=None):
    """The bits of the message with this value."""
    name = kind_name(edition, kind)
    draft = Draft(edition.plan)
    draft.write(edition.plan.named[name], value, ())
    return draft.as_bits()


class Draft:
    """The bits of a message, or of a body in it, as far as they are written.

    Each method looks at a thing with its path, first at itself, then at what is inside it.
    """

    def __init__(self, plan):
        self.plan = plan
        self.pieces = []

    def as_bits(self):
        return "".join(self.pieces)

    def write(self, kind, thing, path):
        if isinstance(kind, Nothing):
            check(thing is None, path)
        elif isinstance(kind, Number):
            check(is_int(thing) and kind.low <= thing <= kind.high, path)
            self.pieces.append(number_bits(kind, thing))
        elif isinstance(kind, Bits):
            check(is_bits(thing) and len(thing) == kind.many, path)
            self.pieces.append(thing)
        elif isinstance(kind, Call):
            self.write(self.plan.named[kind.name], thing, path)
        elif isinstance(kind, Items):
            self.write_items(kind, thing, path)
        elif isinstance(kind, Choice):
            self.write_choice(kind, thing, path)
        else:
            self.write_row(kind, thing, path)

    def write_items(self, kind, thing, path):
        check(isinstance(thing, list), path)
        if kind.width is not None:
            check(len(thing) < 1 << kind.width, path)
            self.pieces.append(bits_of(len(thing), kind.width))
        for number, item in enumerate(thing):
            if kind.width is None:
                self.pieces.append("1")
            self.write(kind.item, item, path + (number,))
        if kind.width is None:
            self.pieces.append("0")

    def write_choice(self, kind, thing, path):
        way = used_way(kind, thing)
        check(way is not None, path)
        if isinstance(way, Door):
            check(is_filling(way, thing[1:]), path)
        else:
            check(len(thing) == 2, path)
        self.pieces.append(way.word)
        if isinstance(way, Door):
            self.write_body(way, thing[1], thing[2], path + (way.name,))
        else:
            self.write(way.kind, thing[1], path + (way.name,))

    def write_row(self, kind, thing, path):
        check(has_keys(kind, thing), path)
        for part in kind.parts:
            inner = path + (part.name,)
            if not isinstance(part, Room):
                self.write(part.kind, thing[part.name], inner)
            elif part.name in thing:
                check(is_filling(part, thing[part.name]), inner)
                value, rest = thing[part.name]
                self.pieces.append(part.word)
                self.write_body(part, value, rest, inner)

    def write_body(self, inner, value, rest, path):
        draft = Draft(self.plan)
        if inner.kind is not None:
            draft.write(inner.kind, value, path)
        body = draft.as_bits() + rest
        check(len(body) < 1 << self.plan.count, path)
        self.pieces.append(bits_of(len(body), self.plan.count))
        self.pieces.append(body)


def check(is_right, path):
    if not is_right:
        raise BadValue(path)


def used_way(kind, thing):
    """The way or door of a choice whose name the tuple has, or None."""
    if not isinstance(thing, tuple) or len(thing) == 0:
        return None
    for way in kind.ways:
        if way.name == thing[0]:
            return way
    return None


def is_filling(inner, thing):
    """Whether this is a tuple (value, rest) for a door or room, as far as it can be told without the known kind."""
    if not isinstance(thing, tuple) or len(thing) != 2 or not is_bits(thing[1]):
        return False
    return inner.kind is not None or thing[0] is None


def has_keys(kind, thing):
    """Whether this is a dict with all names of parts, and no names but those of parts and rooms."""
    if not isinstance(thing, dict):
        return False
    names = [part.name for part in kind.parts]
    if not all([name in names for name in thing]):
        return False
    return all([isinstance(part, Room) or part.name in thing for part in kind.parts])
