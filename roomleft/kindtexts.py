"""The texts of kinds, ways and parts.

What is scanned is made at once: BadKind goes on to whoever scans, as BadText does.
"""

from roomleft.kinds import Bits, Call, Choice, Door, Items, Nothing, Number, Part, Room, Row, Way


def kind_text(kind):
    """The text of a simple kind or of Nothing."""
    if isinstance(kind, Nothing):
        return "nothing"
    if isinstance(kind, Number):
        return f"number {kind.low} {kind.high}{width_text(kind.width)}"
    if isinstance(kind, Bits):
        return f"bits {kind.many}"
    if isinstance(kind, Items):
        return f"items{width_text(kind.width)} [{kind_text(kind.item)}]"
    return f"call {kind.name}"


def width_text(width):
    return "" if width is None else f" {width}"


def named_text(kind):
    """The text of a named kind, without its name."""
    if isinstance(kind, Choice):
        return " ".join(["choice"] + [inner_text(way) for way in kind.ways])
    if isinstance(kind, Row):
        return " ".join(["row"] + [inner_text(part) for part in kind.parts])
    return kind_text(kind)


def inner_text(inner):
    """The text of a way, door, part or room."""
    begin = inner.name
    if isinstance(inner, Way):
        begin = f"{inner.word}:{inner.name}"
    if isinstance(inner, (Door, Room)):
        begin = f"{inner.word}?{inner.name}"
    return begin if inner.kind is None else f"{begin}[{kind_text(inner.kind)}]"


def scan_kind(scan):
    """A simple kind or Nothing."""
    return scan_kind_behind(scan, scan.take_name())


def scan_kind_behind(scan, word):
    """A simple kind or Nothing, of which the first word was taken."""
    if word == "nothing":
        return Nothing()
    return scan_items_behind(scan) if word == "items" else scan_item_behind(scan, word)


def scan_items_behind(scan):
    width = None
    scan.take(" ")
    if not scan.has("["):
        width = scan.take_integer()
        scan.take(" [")
    item = scan_item_behind(scan, scan.take_name())
    scan.take("]")
    return Items(item, width)


def scan_item_behind(scan, word):
    """A kind that can be an item, of which the first word was taken."""
    scan.need(word in ("number", "bits", "call"))
    scan.take(" ")
    if word == "call":
        return Call(scan.take_name())
    if word == "bits":
        return Bits(scan.take_integer())
    low = scan.take_integer()
    scan.take(" ")
    high = scan.take_integer()
    return Number(low, high, scan.take_integer() if scan.has(" ") else None)


def scan_named(scan):
    """A named kind, without its name."""
    word = scan.take_name()
    things = []
    if word == "choice":
        while scan.has(" "):
            things.append(scan_way(scan))
        return Choice(things)
    if word == "row":
        while scan.has(" "):
            things.append(scan_part(scan))
        return Row(things)
    scan.need(word != "nothing")
    return scan_kind_behind(scan, word)


def scan_way(scan):
    """A way or a door."""
    word = scan.take_bits()
    if scan.has(":"):
        name = scan.take_name()
        scan.take("[")
        return Way(word, name, scan_inner_kind(scan))
    scan.take("?")
    name = scan.take_name()
    return Door(word, name, scan_inner_kind(scan) if scan.has("[") else None)


def scan_part(scan):
    """A part or a room."""
    word = scan.take_bits()
    if word != "":
        return scan_room_behind(scan, word)
    name = scan.take_name()
    scan.take("[")
    return Part(name, scan_inner_kind(scan))


def scan_room(scan):
    return scan_room_behind(scan, scan.take_bits())


def scan_room_behind(scan, word):
    """A room whose word was taken."""
    scan.take("?")
    name = scan.take_name()
    return Room(word, name, scan_inner_kind(scan) if scan.has("[") else None)


def scan_inner_kind(scan):
    """A kind in brackets, the first of which was taken."""
    kind = scan_kind(scan)
    scan.take("]")
    return kind
