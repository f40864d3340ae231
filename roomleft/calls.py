"""Which kinds call which other ones."""

from roomleft.errors import MissingKind, RingOfCalls
from roomleft.kinds import Call, Choice, Items, Row


def inner_kinds(kind):
    """The kinds that stand directly in this one."""
    if isinstance(kind, Items):
        return [kind.item]
    if isinstance(kind, Choice):
        return [way.kind for way in kind.ways]
    if isinstance(kind, Row):
        return [part.kind for part in kind.parts]
    return []


def called_names(kind):
    """The names of all Calls in a kind."""
    if isinstance(kind, Call):
        return [kind.name]
    names = []
    for inner in inner_kinds(kind):
        names.extend(called_names(inner))
    return names


def reached_names(calls, name):
    """The names of all kinds that the named one calls, directly or through others."""
    reached = []
    waiting = list(calls[name])
    while waiting != []:
        called = waiting.pop()
        if called not in reached:
            reached.append(called)
            waiting.extend(calls[called])
    return reached


def checked_calls(named):
    """A dict of the names of all kinds to the names that they call, directly or through others."""
    calls = {name: called_names(named[name]) for name in named}
    missing = []
    for name in calls:
        missing.extend([called for called in calls[name] if called not in named])
    if missing != []:
        raise MissingKind(min(missing))
    reached = {name: reached_names(calls, name) for name in calls}
    rings = [name for name in reached if name in reached[name]]
    if rings != []:
        raise RingOfCalls(min(rings))
    return reached
