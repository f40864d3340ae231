"""The texts of editions."""

from roomleft.editions import Edition
from roomleft.errors import BadKind, BadText
from roomleft.kindtexts import named_text, scan_named
from roomleft.scans import Scan


def edition_text(edition):
    """The text of an edition."""
    kinds = edition.kinds
    lines = [f"edition {edition.root} {edition.count}"]
    lines.extend([f"{name} = {named_text(kinds[name])}" for name in sorted(kinds)])
    return "\n".join(lines)


def read_edition(text):
    """The edition with this text."""
    if not isinstance(text, str):
        raise BadText(-1)
    lines = text.split("\n")
    root, count = read_first_line(lines[0])
    kinds = {}
    last = ""
    for number, line in enumerate(lines[1:], start=1):
        name, kind = read_kind_line(line, number)
        if name <= last:
            raise BadText(number)
        kinds[name] = kind
        last = name
    return Edition(kinds, root, count)


def read_first_line(line):
    """The pair of the name of the root and of the count."""
    scan = Scan(line, 0)
    scan.take("edition ")
    root = scan.take_name()
    scan.take(" ")
    count = scan.take_integer()
    scan.take_end()
    return root, count


def read_kind_line(line, number):
    """The pair of the name and the kind of a line with this number."""
    scan = Scan(line, number)
    name = scan.take_name()
    scan.take(" = ")
    try:
        kind = scan_named(scan)
    except BadKind:
        raise BadText(number) from None
    scan.take_end()
    return name, kind
