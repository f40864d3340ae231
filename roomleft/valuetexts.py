"""The texts of values."""

from roomleft.basics import is_name
from roomleft.editions import kind_name
from roomleft.errors import BadText
from roomleft.kinds import Bits, Call, Choice, Door, Items, Number, Room, Row
from roomleft.scans import Scan
from roomleft.values import is_value


def value_text(value):
    """The text of a value."""
    if value is None:
        return "-"
    if isinstance(value, int):
        return str(value)
    if isinstance(value, str):
        return f"'{value}'"
    if isinstance(value, list):
        return "[" + joined_texts(value) + "]"
    if isinstance(value, dict):
        return "{" + ", ".join([f"{name}: {value_text(value[name])}" for name in sorted(value)]) + "}"
    if is_name(value[0]):
        return value[0] + "(" + joined_texts(value[1:]) + ")"
    return "(" + joined_texts(value) + ")"


def joined_texts(values):
    return ", ".join([value_text(value) for value in values])


def read_value(edition, text, kind=None):
    """The value of a message whose text this is."""
    name = kind_name(edition, kind)
    if not isinstance(text, str):
        raise BadText(-1)
    scan = Scan(text, 0)
    value = ValueScan(edition.plan, scan).value(edition.plan.named[name])
    scan.take_end()
    scan.need(is_value(edition, value, name))
    return value


class ValueScan:
    """Takes values of kinds; their form alone is looked at here, and not whether they are within all bounds."""

    def __init__(self, plan, scan):
        self.plan = plan
        self.scan = scan

    def value(self, kind):
        if isinstance(kind, Number):
            return self.scan.take_integer()
        if isinstance(kind, Bits):
            return self.quoted_bits()
        if isinstance(kind, Call):
            return self.value(self.plan.named[kind.name])
        if isinstance(kind, Items):
            return self.listed(kind)
        if isinstance(kind, Choice):
            return self.chosen(kind)
        if isinstance(kind, Row):
            return self.parted(kind)
        # Nothing, or None for the kind of what is unknown.
        self.scan.take("-")
        return None

    def quoted_bits(self):
        self.scan.take("'")
        bits = self.scan.take_bits()
        self.scan.take("'")
        return bits

    def listed(self, kind):
        things = []
        self.scan.take("[")
        while not self.scan.has("]"):
            self.take_comma(things)
            things.append(self.value(kind.item))
        return things

    def chosen(self, kind):
        way = self.take_one_of(kind.ways)
        self.scan.take("(")
        if isinstance(way, Door):
            value, rest = self.filled(way.kind)
            return way.name, value, rest
        value = self.value(way.kind)
        self.scan.take(")")
        return way.name, value

    def parted(self, kind):
        things = {}
        last = ""
        self.scan.take("{")
        while not self.scan.has("}"):
            self.take_comma(things)
            part = self.take_one_of(kind.parts)
            self.scan.need(part.name > last)
            last = part.name
            self.scan.take(": ")
            if isinstance(part, Room):
                self.scan.take("(")
                things[last] = self.filled(part.kind)
            else:
                things[last] = self.value(part.kind)
        return things

    def filled(self, kind):
        """The pair of the value and the rest of a body, and the parenthesis behind them."""
        value = self.value(kind)
        self.scan.take(", ")
        rest = self.quoted_bits()
        self.scan.take(")")
        return value, rest

    def take_comma(self, things):
        """What stands ahead of all but the first thing."""
        if len(things) > 0:
            self.scan.take(", ")

    def take_one_of(self, things):
        """Takes the name of one of these ways or parts, and tells which one it is."""
        name = self.scan.take_name()
        found = [thing for thing in things if thing.name == name]
        self.scan.need(found != [])
        return found[0]
