"""Things of every sort that may be passed where an error is promised."""

from roomleft.editions import Edition
from roomleft.errors import BadKind, NoKind, RoomError
from roomleft.kinds import Bits, Call, Choice, Door, Items, Nothing, Number, Part, Room, Row, Way
from roomleft.readers import Reader


def nested(wrap, depth):
    thing = wrap(None)
    for _ in range(depth - 1):
        thing = wrap(thing)
    return thing


def interface_objects():
    way = Way("0", "way", Nothing())
    door = Door("1", "door", None)
    part = Part("part", Bits(1))
    edition = Edition({"a": Bits(1)}, "a", 1)
    return [
        Nothing(), Number(0, 1), Number(0, 5, 3), Bits(2), Items(Bits(1)), Items(Number(0, 1), 2), Call("a"),
        way, door, Door("1", "door", Bits(1)), Choice([way, door]), part, Room("1", "room", None),
        Room("1", "room", Bits(1)), Row([part]), edition, RoomError(), BadKind("low"), NoKind(), Reader(edition),
    ]


def strange_things():
    return [
        None, True, False, 0, 1, 2, -1, 7, 10 ** 59, -(10 ** 59),
        "", "0", "1", "01", "2", " 1", "1\n", "0b1", "a", "A", "ab", "a1", "a b", "abcdefgh", "abcdefghi", "\u00e4", "\u0661",
        b"", b"0", b"a", bytearray(b"01"), memoryview(b"01"),
        (), (1,), ("0",), ("a", None), (None, ""), [], [0], ["0"], ["a"], {}, {"a": 1}, {None: None}, {(1, "a"): [1]},
        range(2), slice(1), Ellipsis, NotImplemented, object(), len, int, iter([]), lambda: 1, ValueError("a"), Bits,
        nested(lambda thing: [thing], 30), nested(lambda thing: (thing,), 30), nested(lambda thing: {"a": thing}, 30),
    ] + interface_objects()
