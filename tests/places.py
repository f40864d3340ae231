"""The places of a value, told from the document: what a path can lead to, and the value with another thing there."""

from roomleft.kinds import Call, Choice, Door, Items, Room, Row


def resolved(edition, kind):
    while isinstance(kind, Call):
        kind = edition.kinds[kind.name]
    return kind


def places(edition, kind, value):
    """A list of tuples (path, kind, paths of the bodies around it and its own, outside first)."""
    kind = resolved(edition, kind)
    told = [((), kind, [])]
    if isinstance(kind, Items):
        for number, item in enumerate(value):
            told.extend(below((number,), places(edition, kind.item, item), False))
    if isinstance(kind, Choice):
        way = next(way for way in kind.ways if way.name == value[0])
        if way.kind is not None:
            told.extend(below((way.name,), places(edition, way.kind, value[1]), isinstance(way, Door)))
    if isinstance(kind, Row):
        for part in kind.parts:
            if not isinstance(part, Room):
                told.extend(below((part.name,), places(edition, part.kind, value[part.name]), False))
            elif part.kind is not None:
                if part.name in value:
                    told.extend(below((part.name,), places(edition, part.kind, value[part.name][0]), True))
                else:
                    told.append(((part.name,), resolved(edition, part.kind), [(part.name,)]))
    return told


def below(path, told, is_body):
    bodies = [path] if is_body else []
    return [(path + inner, kind, bodies + [path + body for body in around]) for inner, kind, around in told]


def with_thing(edition, kind, value, path, thing):
    """The value with another thing at a place."""
    if path == ():
        return thing
    kind = resolved(edition, kind)
    name, path = path[0], path[1:]
    if isinstance(kind, Items):
        return [with_thing(edition, kind.item, item, path, thing) if at == name else item for at, item in enumerate(value)]
    inner = next(one for one in (kind.ways if isinstance(kind, Choice) else kind.parts) if one.name == name)
    if isinstance(kind, Choice):
        return (name, with_thing(edition, inner.kind, value[1], path, thing)) + value[2:]
    if not isinstance(inner, Room):
        return {**value, name: with_thing(edition, inner.kind, value[name], path, thing)}
    old, rest = value.get(name, (None, ""))
    return {**value, name: (with_thing(edition, inner.kind, old, path, thing), rest)}


def thing_at(edition, kind, value, path):
    """The value at a place of a message that uses it; None for that of a room that is not filled."""
    for name in path:
        kind = resolved(edition, kind)
        if isinstance(kind, Items):
            kind, value = kind.item, value[name]
            continue
        inner = next(one for one in (kind.ways if isinstance(kind, Choice) else kind.parts) if one.name == name)
        if isinstance(kind, Choice):
            value = value[1]
        else:
            value = value.get(name, (None, "")) if isinstance(inner, Room) else value[name]
            value = value[0] if isinstance(inner, Room) else value
        kind = inner.kind
    return value


def body_sizes(edition, kind, value, write):
    """A dict of the paths of all bodies to the numbers of their bits; write(kind, value) are the bits of a value."""
    told = {}
    kind = resolved(edition, kind)
    if isinstance(kind, Items):
        for number, item in enumerate(value):
            told.update({(number,) + path: size for path, size in body_sizes(edition, kind.item, item, write).items()})
    if isinstance(kind, (Choice, Row)):
        for inner in kind.ways if isinstance(kind, Choice) else kind.parts:
            filled = None
            if isinstance(kind, Choice):
                filled = value[1:] if inner.name == value[0] else None
            elif inner.name in value:
                filled = value[inner.name] if isinstance(inner, Room) else (value[inner.name],)
            if filled is None:
                continue
            if inner.kind is not None:
                further = body_sizes(edition, inner.kind, filled[0], write)
                told.update({(inner.name,) + path: size for path, size in further.items()})
            if isinstance(inner, (Door, Room)):
                told[(inner.name,)] = len(filled[1]) + (0 if inner.kind is None else len(write(inner.kind, filled[0])))
    return told
