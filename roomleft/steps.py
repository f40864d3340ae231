"""Steps: how a later edition comes of an elder one."""

from roomleft.basics import is_int, is_int_within, is_name
from roomleft.calls import called_names
from roomleft.editions import Edition, is_named_kind
from roomleft.errors import LongBody, MissingKind, NoStep, RingOfCalls, RoomTaken
from roomleft.kinds import Choice, Door, Nothing, Number, Part, Room, Row, Way, are_apart, is_simple


class AddKind:
    """The edition gets a further kind."""

    def __init__(self, name, kind):
        self.name = name
        self.kind = kind

    def __eq__(self, other):
        return isinstance(other, AddKind) and are_same(self.name, other.name) and are_same(self.kind, other.kind)


class AddWay:
    """A Choice gets a further Way or Door."""

    def __init__(self, name, way):
        self.name = name
        self.way = way

    def __eq__(self, other):
        return isinstance(other, AddWay) and are_same(self.name, other.name) and are_same(self.way, other.way)


class AddRoom:
    """A Row gets a Room ahead of one of its parts and rooms."""

    def __init__(self, name, index, room):
        self.name = name
        self.index = index
        self.room = room

    def __eq__(self, other):
        return (
            isinstance(other, AddRoom)
            and are_same(self.name, other.name)
            and are_same(self.index, other.index)
            and are_same(self.room, other.room)
        )


class TellBody:
    """An unknown door or room becomes known."""

    def __init__(self, name, inner, kind):
        self.name = name
        self.inner = inner
        self.kind = kind

    def __eq__(self, other):
        return (
            isinstance(other, TellBody)
            and are_same(self.name, other.name)
            and are_same(self.inner, other.inner)
            and are_same(self.kind, other.kind)
        )


class Widen:
    """A Number with a width gets a greater high."""

    def __init__(self, name, inner, high):
        self.name = name
        self.inner = inner
        self.high = high

    def __eq__(self, other):
        return (
            isinstance(other, Widen)
            and are_same(self.name, other.name)
            and are_same(self.inner, other.inner)
            and are_same(self.high, other.high)
        )


def are_same(one, other):
    """Whether two fields are equal; those of unlike classes, as True and 1, are not."""
    return one.__class__.__name__ == other.__class__.__name__ and one == other


def taken(edition, step):
    """The later edition that a step makes."""
    named = edition.kinds
    if isinstance(step, AddKind):
        kind = added_kind(named, step)
    elif isinstance(step, AddWay):
        kind = with_way(named, step)
    elif isinstance(step, AddRoom):
        kind = with_room(named, step)
    elif isinstance(step, TellBody):
        kind = with_body_told(named, step)
    elif isinstance(step, Widen):
        kind = widened(named, step)
    else:
        raise NoStep("step")
    named[step.name] = kind
    return later_edition(named, edition)


def later_edition(named, edition):
    try:
        return Edition(named, edition.root, edition.count)
    except MissingKind:
        raise NoStep("missing") from None
    except RingOfCalls:
        raise NoStep("ring") from None
    except LongBody:
        raise NoStep("long") from None
    except RoomTaken:
        raise NoStep("room") from None


def need(is_right, reason):
    if not is_right:
        raise NoStep(reason)


def kind_named(named, name):
    """The kind under a name, which may be anything; None if there is none."""
    return named.get(name) if isinstance(name, str) else None


def inner_things(kind):
    return kind.ways if isinstance(kind, Choice) else kind.parts


def added_kind(named, step):
    need(is_name(step.name) and step.name not in named and len(named) < 20, "name")
    need(is_named_kind(step.kind), "kind")
    return step.kind


def with_way(named, step):
    kind = kind_named(named, step.name)
    need(isinstance(kind, Choice), "name")
    need(isinstance(step.way, (Way, Door)), "kind")
    need(len(kind.ways) < 12, "many")
    need(step.way.name not in [way.name for way in kind.ways], "same")
    need(are_apart([way.word for way in kind.ways] + [step.way.word]), "word")
    return Choice(list(kind.ways) + [step.way])


def with_room(named, step):
    kind = kind_named(named, step.name)
    need(isinstance(kind, Row), "name")
    need(is_int_within(step.index, 0, len(kind.parts) - 1), "index")
    need(isinstance(step.room, Room), "kind")
    need(len(kind.parts) < 8, "many")
    need(step.room.name not in [part.name for part in kind.parts], "same")
    parts = list(kind.parts)
    parts.insert(step.index, step.room)
    return Row(parts)


def with_body_told(named, step):
    kind = kind_named(named, step.name)
    need(isinstance(kind, (Choice, Row)), "name")
    inner = inner_named(kind, step.inner)
    need(isinstance(inner, (Door, Room)), "inner")
    is_kind = is_simple(step.kind) or isinstance(inner, Door) and isinstance(step.kind, Nothing)
    need(is_kind and inner.kind is None, "kind")
    return with_inner_kind(kind, inner.name, step.kind)


def widened(named, step):
    kind = kind_named(named, step.name)
    if step.inner is None:
        need(isinstance(kind, Number), "name")
        return wider(kind, step.high)
    need(isinstance(kind, (Choice, Row)), "name")
    inner = inner_named(kind, step.inner)
    need(inner is not None, "inner")
    return with_inner_kind(kind, inner.name, wider(inner.kind, step.high))


def wider(kind, high):
    need(isinstance(kind, Number) and kind.width is not None, "kind")
    # A width is at most 60, so there are not more than 2 ** 60 integers either.
    need(is_int(high) and kind.high < high < kind.low + (1 << kind.width), "high")
    return Number(kind.low, high, kind.width)


def inner_named(kind, name):
    """The way, door, part or room with a name, which may be anything; None if there is none."""
    if isinstance(name, str):
        for inner in inner_things(kind):
            if inner.name == name:
                return inner
    return None


def with_inner_kind(kind, name, inner_kind):
    """The Choice or Row in which the thing with a name has another kind."""
    things = [changed(inner, inner_kind) if inner.name == name else inner for inner in inner_things(kind)]
    return Choice(things) if isinstance(kind, Choice) else Row(things)


def changed(inner, kind):
    if isinstance(inner, Way):
        return Way(inner.word, inner.name, kind)
    if isinstance(inner, Door):
        return Door(inner.word, inner.name, kind)
    if isinstance(inner, Room):
        return Room(inner.word, inner.name, kind)
    return Part(inner.name, kind)


def steps_to(elder, later):
    """The list of the steps with which the elder edition becomes the later one, or None."""
    if elder.root != later.root or elder.count != later.count:
        return None
    before = elder.kinds
    after = later.kinds
    if not all([name in after for name in before]):
        return None
    steps = further_kinds(before, after)
    for name in sorted(before):
        further = steps_of_kind(name, before[name], after[name])
        if further is None:
            return None
        steps.extend(further)
    return steps if do_lead(steps, elder, later) else None


def further_kinds(before, after):
    """The AddKinds, each with the least name of those that call only what is there by then."""
    steps = []
    there = {name: True for name in before}
    waiting = sorted([name for name in after if name not in before])
    while waiting != []:
        # No kinds of an edition call one another in a ring, so one is ready each time.
        name = [one for one in waiting if all([called in there for called in called_names(after[one])])][0]
        steps.append(AddKind(name, after[name]))
        there[name] = True
        waiting.remove(name)
    return steps


def steps_of_kind(name, one, other):
    """The steps that make the other kind of one, or None."""
    if one == other:
        return []
    if isinstance(one, Choice) and isinstance(other, Choice):
        return steps_of_choice(name, one, other)
    if isinstance(one, Row) and isinstance(other, Row):
        return steps_of_row(name, one, other)
    return [Widen(name, None, other.high)] if is_widened(one, other) else None


def is_widened(one, other):
    if not isinstance(one, Number) or not isinstance(other, Number):
        return False
    return one.width is not None and one.width == other.width and one.low == other.low and one.high < other.high


def steps_of_choice(name, one, other):
    if len(one.ways) > len(other.ways):
        return None
    steps = []
    for way, later in zip(one.ways, other.ways):
        further = steps_of_inner(name, way, later)
        if further is None:
            return None
        steps.extend(further)
    return steps + [AddWay(name, way) for way in other.ways[len(one.ways):]]


def steps_of_row(name, one, other):
    steps = []
    waiting = list(one.parts)
    for index, part in enumerate(other.parts):
        if waiting != [] and waiting[0].name == part.name:
            further = steps_of_inner(name, waiting.pop(0), part)
        else:
            further = [AddRoom(name, index, part)] if isinstance(part, Room) else None
        if further is None:
            return None
        steps.extend(further)
    return steps if waiting == [] else None


def steps_of_inner(name, one, other):
    """The steps for a way, door, part or room, or None."""
    if one == other:
        return []
    # Told or widened in this way, it would be the same but for its kind.
    if one.__class__.__name__ != other.__class__.__name__ or other.kind is None or changed(one, other.kind) != other:
        return None
    if one.kind is None:
        return [TellBody(name, one.name, other.kind)]
    return [Widen(name, one.name, other.kind.high)] if is_widened(one.kind, other.kind) else None


def do_lead(steps, elder, later):
    """Whether the steps can be taken one after another, from the elder edition to the later one."""
    edition = elder
    try:
        for step in steps:
            edition = taken(edition, step)
    except NoStep:
        return False
    return edition == later
