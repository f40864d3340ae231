"""The lines of a desk."""

from roomleft.basics import is_name
from roomleft.errors import BadKind, BadText, NoLine
from roomleft.kindtexts import scan_kind, scan_named, scan_room, scan_way
from roomleft.scans import Scan
from roomleft.steps import AddKind, AddRoom, AddWay, TellBody, Widen

# What stands behind the first word: "name" for the name of an edition that must be there, "new" for one
# that need not, "word" for any word, "rest" for all that is left of the line, "step" for a step as the rest.
FORMS = {
    "edition": ("new", "rest"),
    "drop": ("name",),
    "step": ("name", "new", "step"),
    "undo": (),
    "write": ("name", "rest"),
    "read": ("name", "word"),
    "own": ("name", "word"),
    "number": ("name", "word"),
    "free": ("name", "word"),
    "weight": ("name", "word"),
    "sizes": ("name", "word"),
    "judge": ("name", "name"),
    "sort": ("name", "name", "word"),
    "reads": ("name", "name"),
    "names": (),
}


class Line:
    """What a line tells: its first word, the names of the editions that must be there, and all else."""

    def __init__(self, line):
        if not isinstance(line, str) or "\n" in line:
            raise NoLine()
        words = line.split(" ")
        if "" in words or words[0] not in FORMS:
            raise NoLine()
        self.word = words[0]
        form = FORMS[self.word]
        if form != () and form[-1] in ("rest", "step"):
            words = line.split(" ", len(form))
        if len(words) != 1 + len(form):
            raise NoLine()
        self.names = [name_of(word) for part, word in zip(form, words[1:]) if part == "name"]
        self.others = [other_of(part, word) for part, word in zip(form, words[1:]) if part != "name"]


def name_of(word):
    if not is_name(word):
        raise NoLine()
    return word


def other_of(part, word):
    """What a word tells that is not the name of an edition that must be there."""
    if part == "new":
        return name_of(word)
    return step_of(word) if part == "step" else word


def step_of(text):
    """The step with this text."""
    scan = Scan(text, 0)
    try:
        step = scan_step(scan)
        scan.take_end()
    except (BadText, BadKind):
        raise NoLine() from None
    return step


def scan_step(scan):
    word = scan.take_name()
    scan.take(" ")
    name = scan.take_name()
    scan.take(" ")
    if word == "kind":
        return AddKind(name, scan_named(scan))
    if word == "way":
        return AddWay(name, scan_way(scan))
    if word == "room":
        index = scan.take_integer()
        scan.take(" ")
        return AddRoom(name, index, scan_room(scan))
    scan.need(word in ("tell", "widen"))
    inner = None
    if word == "tell" or not scan.has("-"):
        inner = scan.take_name()
    scan.take(" ")
    return TellBody(name, inner, scan_kind(scan)) if word == "tell" else Widen(name, inner, scan.take_integer())
