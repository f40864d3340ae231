"""Messages that pass through programs, each of which sets some things in them."""

from roomleft.basics import is_int_within
from roomleft.errors import BadBits, BadValue, Broken, Left, NoBits, NoPlace, NoRoom, TooFew
from roomleft.kinds import Call, Choice, Door, Items, Room, Row
from roomleft.reading import read
from roomleft.writing import Draft, written


def set_at(edition, bits, path, value):
    """The bits of the message in which the thing at a path is another one; all else is as it was."""
    old = read(edition, bits)
    setting = Setting(edition.plan, path, value)
    new = setting.changed(edition.plan.named[edition.root], old, 0)
    try:
        return written(edition, new)
    except BadValue as error:
        # The value was looked at by itself, so just a body around it can be wrong.
        raise NoRoom(error.path) from None


class Setting:
    """Puts a thing at a path: each method makes, of a value on the way there, the one with the thing in it.

    What it is given are the kind and the value, and how many names of the path lead to it.
    """

    def __init__(self, plan, path, thing):
        self.plan = plan
        self.path = path
        self.thing = thing
        need_place(isinstance(path, tuple))

    def changed(self, kind, old, depth):
        while isinstance(kind, Call):
            kind = self.plan.named[kind.name]
        if depth == len(self.path):
            Draft(self.plan).write(kind, self.thing, self.path)
            return self.thing
        if isinstance(kind, Items):
            return self.changed_items(kind, old, depth)
        if isinstance(kind, Choice):
            return self.changed_way(kind, old, depth)
        need_place(isinstance(kind, Row))
        return self.changed_row(kind, old, depth)

    def changed_items(self, kind, old, depth):
        number = self.path[depth]
        need_place(is_int_within(number, 0, len(old) - 1))
        items = list(old)
        items[number] = self.changed(kind.item, old[number], depth + 1)
        return items

    def changed_way(self, kind, old, depth):
        way = inner_under(kind.ways, self.path[depth])
        need_place(way is not None and way.name == old[0])
        inside = self.changed(way.kind, old[1], depth + 1)
        return (way.name, inside, old[2]) if isinstance(way, Door) else (way.name, inside)

    def changed_row(self, kind, old, depth):
        part = inner_under(kind.parts, self.path[depth])
        need_place(part is not None)
        things = dict(old)
        if isinstance(part, Room):
            # A room that is not filled can be led to, but nothing inside it.
            need_place(part.name in old or depth + 1 == len(self.path))
            inside, rest = old.get(part.name, (None, ""))
            things[part.name] = (self.changed(part.kind, inside, depth + 1), rest)
        else:
            things[part.name] = self.changed(part.kind, old[part.name], depth + 1)
        return things


def need_place(is_there):
    if not is_there:
        raise NoPlace()


def inner_under(things, name):
    """The way or part with this name, which may be anything; None if there is none or it is not known."""
    for thing in things:
        if isinstance(name, str) and thing.name == name and thing.kind is not None:
            return thing
    return None


def through(programs, bits):
    """The bits of a message behind several programs, each of which reads it and sets some things in it."""
    for at, (edition, sets) in enumerate(programs):
        bits = behind_program(edition, sets, bits, at)
    return bits


def behind_program(edition, sets, bits, at):
    try:
        read(edition, bits)
        for path, value in sets:
            bits = set_at(edition, bits, path, value)
    except NoBits:
        raise Broken(at, "NoBits") from None
    except BadBits:
        raise Broken(at, "BadBits") from None
    except TooFew:
        raise Broken(at, "TooFew") from None
    except Left:
        raise Broken(at, "Left") from None
    except NoPlace:
        raise Broken(at, "NoPlace") from None
    except BadValue:
        raise Broken(at, "BadValue") from None
    except NoRoom:
        raise Broken(at, "NoRoom") from None
    return bits
