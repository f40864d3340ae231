"""Editions: descriptions of messages by named kinds."""

from roomleft.basics import is_int_within, is_name
from roomleft.calls import checked_calls
from roomleft.errors import BadEdition, NoKind, RoomTaken
from roomleft.kinds import Choice, Room, Row, is_simple
from roomleft.lengths import check_bodies
from roomleft.nodes import NO_BODY
from roomleft.plans import Plan
from roomleft.threads import refuse


class Edition:
    """A description: kinds by their names, the name of the root, and the number of bits of a body's count."""

    def __init__(self, kinds, root, count):
        check_parts(kinds, root, count)
        self._kinds = {name: kinds[name] for name in kinds}
        self.root = root
        self.count = count
        reached = checked_calls(self._kinds)
        check_bodies(self._kinds, count)
        self.plan = Plan(self._kinds, count)
        check_rooms(self.plan, reached)

    @property
    def kinds(self):
        return {name: self._kinds[name] for name in self._kinds}

    def __eq__(self, other):
        return (
            isinstance(other, Edition)
            and self._kinds == other._kinds
            and self.root == other.root
            and self.count == other.count
        )


def check_parts(kinds, root, count):
    if not are_kinds(kinds):
        raise BadEdition("kinds")
    if not isinstance(root, str) or root not in kinds:
        raise BadEdition("root")
    if not is_int_within(count, 1, 5):
        raise BadEdition("count")


def are_kinds(thing):
    if not isinstance(thing, dict) or not 1 <= len(thing) <= 20:
        return False
    return all([is_name(name) and is_named_kind(thing[name]) for name in thing])


def is_named_kind(thing):
    return is_simple(thing) or isinstance(thing, (Choice, Row))


def check_rooms(plan, reached):
    faults = {}
    # A kind reaches more kinds than any kind that it calls does, so those come first.
    for name in sorted(reached, key=lambda one: len(reached[one])):
        if not any([called in faults for called in reached[name]]):
            room = taken_room(plan, name)
            if room is not None:
                faults[name] = room
    if faults != {}:
        raise RoomTaken(min(faults), faults[min(faults)])


def taken_room(plan, name):
    """The name of the last room in this kind whose word is not free for what follows, or None."""
    kind = plan.named[name]
    if not isinstance(kind, Row):
        return None
    for number in range(len(kind.parts) - 1, -1, -1):
        part = kind.parts[number]
        if isinstance(part, Room):
            follow = plan.nodes[name].begin_at(NO_BODY, (), number + 1)
            if not refuse(follow, part.word):
                return part.name
    return None


def kind_name(edition, kind):
    """The name of the kind that an argument tells: the root for None."""
    if kind is None:
        return edition.root
    if not isinstance(kind, str) or kind not in edition.plan.named:
        raise NoKind()
    return kind
