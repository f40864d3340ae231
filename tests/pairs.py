"""Pairs of editions: what becomes of an edition by steps, or when some of its kinds are changed."""

import random

from roomleft.editions import Edition
from roomleft.errors import BadKind, NoStep, RoomError
from roomleft.free import room_words, way_words
from roomleft.kinds import Bits, Call, Choice, Door, Items, Nothing, Number, Room, Row, Way
from roomleft.steps import AddRoom, AddWay, TellBody, changed, inner_things, taken
from tests.lists import BIT, THREE, random_editions


def other_edition(luck, kinds, root, count):
    """The same kinds with some of their ways, parts and counts changed; None if there is no such edition."""
    made = {}
    for name, kind in kinds.items():
        if isinstance(kind, (Choice, Row)):
            things = [thing for thing in [other_thing(luck, thing) for thing in inner_things(kind)] if thing is not None]
            try:
                kind = Choice(things) if isinstance(kind, Choice) else Row(things)
            except BadKind:
                pass
        elif luck.random() < 0.2 and isinstance(kind, Items):
            kind = Items(kind.item, luck.choice([None, 1, 2]))
        made[name] = kind
    try:
        return Edition(made, root, luck.choice([1, 2, 3]) if luck.random() < 0.3 else count)
    except RoomError:
        return None


def other_thing(luck, thing):
    chance = luck.random()
    if isinstance(thing, (Door, Room)) and chance < 0.4:
        return changed(thing, None if chance < 0.3 else BIT)
    if chance < 0.5:
        return changed(thing, Number(0, luck.randint(1, 3), 2))
    if chance < 0.55 and isinstance(thing, Way):
        return changed(thing, Nothing())
    return None if chance < 0.57 else thing


def grown(luck, one):
    """An edition with further unknown rooms and doors."""
    for _ in range(luck.randint(1, 4)):
        name = luck.choice(sorted(one.kinds))
        kind = one.kinds[name]
        step = None
        if isinstance(kind, Row):
            index = luck.randrange(len(kind.parts))
            words = room_words(one, name, index, 6)
            if words:
                step = AddRoom(name, index, Room(luck.choice(words) + luck.choice(["", "", "1"]), luck.choice("hijk"), None))
        elif isinstance(kind, Choice):
            words = way_words(one, name, 6)
            step = AddWay(name, Door(luck.choice(words), luck.choice("hijk"), None)) if words else None
        one = taken_if_can_be(one, step)
    return one


def told(luck, one):
    """An edition in which most of the unknown doors and rooms are known."""
    names = sorted(one.kinds)
    for name in names:
        kind = one.kinds[name]
        for inner in inner_things(kind) if isinstance(kind, (Choice, Row)) else ():
            simple = luck.choice([Bits(1), THREE, Number(0, 2), Items(Bits(1), 1), Call(luck.choice(names)), Nothing()])
            if inner.kind is None and luck.random() < 0.8:
                one = taken_if_can_be(one, TellBody(name, inner.name, simple))
    return one


def taken_if_can_be(one, step):
    try:
        return one if step is None else taken(one, step)
    except NoStep:
        return one


def random_pairs(seeds):
    """A list of tuples (seed, writer, reader)."""
    made = []
    for seed, one in random_editions(seeds):
        luck = random.Random(seed)
        kinds, root = one.kinds, one.root
        if luck.random() < 0.4:
            kinds, root = {**kinds, "run": Items(Call(root), luck.choice([None, None, 2]))}, "run"
        unknown = grown(luck, Edition(kinds, root, one.count))
        known = told(luck, unknown)
        made.extend([(seed, known, unknown), (seed, unknown, known), (seed, one, unknown)])
        for base in (known, unknown):
            other = other_edition(luck, base.kinds, base.root, base.count)
            if other is not None:
                made.extend([(seed, base, other), (seed, other, base), (seed, other, unknown)])
    return made
