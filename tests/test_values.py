import copy
import unittest

from roomleft.editions import Edition
from roomleft.errors import BadValue, NoKind
from roomleft.kinds import Bits, Call, Choice, Door, Items, Nothing, Number, Part, Room, Row, Way
from roomleft.values import is_value
from roomleft.writing import written
from tests.oracle import Oracle
from tests.samples import sample_editions
from tests.strange import strange_things

BIT = Number(0, 1)
THREE = Number(0, 2, 2)


def plain(thing):
    """A text that differs wherever two things differ, also in the classes of what is inside them."""
    if type(thing) is dict:
        return "{" + ", ".join(sorted(plain(key) + ":" + plain(thing[key]) for key in thing)) + "}"
    if type(thing) in (list, tuple):
        return type(thing).__name__ + "(" + ", ".join(plain(inner) for inner in thing) + ")"
    return type(thing).__name__ + repr(thing)


def changed(value):
    """Values with one thing in them exchanged, left out, or put to them."""
    yield from strange_things()
    if type(value) in (list, tuple):
        make = type(value)
        for at in range(len(value)):
            for thing in changed(value[at]):
                yield make([*value[:at], thing, *value[at + 1:]])
            yield make([*value[:at], *value[at + 1:]])
        yield make([*value, 0])
        yield make([*value, ""])
        yield list(value) if make is tuple else tuple(value)
    if type(value) is dict:
        for key in value:
            for thing in changed(value[key]):
                yield {**value, key: thing}
            yield {name: value[name] for name in value if name != key}
        for key in ("zz", None, 0, True, b"p", ("p",)):
            yield {**value, key: 0}
        yield list(value.items())


class ValuesTest(unittest.TestCase):
    def setUp(self):
        self.edition = Edition({
            "a": Row([
                Part("num", Number(-2, 5)), Part("list", Items(Call("b"))), Room("1111", "room", Call("c")),
                Room("1110", "gap", None), Part("few", Items(THREE, 1)), Part("last", Call("b")),
            ]),
            "b": Choice([
                Way("00", "nil", Nothing()), Way("01", "bits", Bits(2)), Door("10", "door", Call("c")),
                Door("110", "dark", None), Door("111", "bell", Nothing()),
            ]),
            "c": Row([Part("x", BIT), Part("y", Items(BIT, 1))]),
        }, "a", 3)

    def good(self):
        return {
            "num": -2, "list": [("nil", None), ("bits", "10"), ("door", {"x": 1, "y": [0]}, "11"), ("dark", None, "01"),
                                ("bell", None, "")],
            "room": ({"x": 0, "y": []}, ""), "gap": (None, "1111111"), "few": [2], "last": ("bell", None, "1"),
        }

    def wrong(self, path, value, kind=None):
        with self.assertRaises(BadValue) as caught:
            written(self.edition, value, kind)
        self.assertEqual(caught.exception.path, path)
        self.assertIs(type(caught.exception.path), tuple)
        self.assertIs(is_value(self.edition, value, kind), False)

    def with_things(self, *places):
        """The good value with things put at places."""
        value = self.good()
        for place, thing in places:
            inner = value
            for name in place[:-1]:
                inner = inner[name]
            inner[place[-1]] = thing
        return value

    def test_good(self):
        self.assertIs(is_value(self.edition, self.good()), True)
        self.assertEqual(written(self.edition, self.good()), "".join([
            "000", "1", "00", "1", "01", "10", "1", "10", "101", "1", "1", "0", "11", "1", "110", "010", "01",
            "1", "111", "000", "0", "1111", "010", "0", "0", "1110", "111", "1111111", "1", "10", "111", "001", "1",
        ]))

    def test_the_order_of_keys_means_nothing(self):
        value = self.good()
        turned = {name: value[name] for name in reversed(list(value))}
        turned["room"] = ({"y": [], "x": 0}, "")
        self.assertEqual(written(self.edition, turned), written(self.edition, value))
        self.wrong(("num",), {**turned, "last": 0, "num": 9, "few": 0})
        self.wrong(("few",), {**turned, "last": 0, "few": 0})

    def test_nothing_is_changed(self):
        value = self.good()
        kept = copy.deepcopy(value)
        written(self.edition, value)
        is_value(self.edition, value)
        self.assertEqual(plain(value), plain(kept))
        self.assertEqual(list(value), list(kept))

    def test_things_against_all_values(self):
        for name, (edition, size) in sample_editions().items():
            oracle = Oracle(edition.kinds, edition.count)
            messages = oracle.of(edition.root, 11)
            values = {plain(value) for _, value, _, _ in messages}
            picked = messages[:2] + messages[len(messages) // 2:][:2] + messages[-2:]
            for thing in [thing for _, value, _, _ in picked for thing in changed(value)]:
                is_right = is_value(edition, thing)
                if is_right:
                    bits = written(edition, thing)
                    if len(bits) <= 11:
                        self.assertIn(plain(thing), values, name)
                else:
                    self.assertNotIn(plain(thing), values, name)
                    with self.assertRaises(BadValue):
                        written(edition, thing)

    def test_the_whole(self):
        for thing in strange_things():
            self.wrong((), thing)
            self.wrong((), thing, "b")
            self.wrong((), thing, "c")
        value = self.good()
        for name in ("num", "list", "few", "last"):
            self.wrong((), {key: value[key] for key in value if key != name})
        for key in ("odd", "", None, 0, b"num", ("num",), "x"):
            self.wrong((), {**value, key: 0})
            self.wrong((), {**value, key: 0, "num": "wrong"})

    def test_rooms_may_be_missing(self):
        value = self.good()
        del value["room"]
        self.assertTrue(is_value(self.edition, value))
        del value["gap"]
        self.assertTrue(is_value(self.edition, value))
        self.wrong(("gap",), {**value, "gap": None})

    def test_numbers(self):
        for integer in (-2, 0, 5):
            self.assertTrue(is_value(self.edition, self.with_things((("num",), integer))))
        for thing in strange_things() + [-3, 6]:
            if type(thing) is not int or not -2 <= thing <= 5:
                self.wrong(("num",), self.with_things((("num",), thing)))

    def test_items(self):
        for thing in strange_things() + [((("nil", None),))]:
            if type(thing) is not list:
                self.wrong(("list",), self.with_things((("list",), thing)))
                self.wrong(("few",), self.with_things((("few",), thing)))
        self.assertTrue(is_value(self.edition, self.with_things((("list",), []), (("few",), []))))
        self.wrong(("few",), self.with_things((("few",), [0, 0])))
        self.wrong(("few",), self.with_things((("few",), [0, "wrong"])))
        self.wrong(("few", 0), self.with_things((("few",), ["wrong"])))
        self.wrong(("list", 0), self.with_things((("list",), [None, None])))
        self.wrong(("list", 2), self.with_things((("list",), [("nil", None), ("nil", None), None, None])))
        many = [("nil", None)] * 1000
        self.assertTrue(is_value(self.edition, self.with_things((("list",), many))))
        self.wrong(("list", 1000, "nil"), self.with_things((("list",), many + [("nil", 0)])))

    def test_widths_of_items(self):
        for width in (1, 2, 3):
            edition = Edition({"a": Items(BIT, width)}, "a", 1)
            most = 2 ** width - 1
            self.assertEqual(written(edition, [1] * most), "1" * (width + most))
            self.assertEqual(written(edition, []), "0" * width)
            self.assertFalse(is_value(edition, [1] * (most + 1)))
            with self.assertRaises(BadValue) as caught:
                written(edition, ["wrong"] * (most + 1))
            self.assertEqual(caught.exception.path, ())

    def test_ways(self):
        for thing in ((), ("nil",), ("nil", None, None), ("nil", None, ""), ("odd", None), (None, None), ["nil", None],
                      ("num", 0), "nil", ("nil" * 2, None), (b"nil", None), (["nil"], None), ({}, None), (("nil",), None)):
            self.wrong(("last",), self.with_things((("last",), thing)))
            self.wrong(("list", 1), self.with_things((("list", 1), thing)))
            self.wrong((), thing, "b")
        for thing in strange_things():
            if thing is not None:
                self.wrong(("last", "nil"), self.with_things((("last",), ("nil", thing))))
        for thing in ("1", "", "111", "12", 10, None, b"10", ["1", "0"]):
            self.wrong(("bits",), ("bits", thing), "b")

    def test_doors(self):
        for thing in (("door", {"x": 0, "y": []}), ("door",), ("door", {"x": 0, "y": []}, "", ""), ["door", None, ""],
                      ("door", None, None), ("dark", None), ("dark", 0, ""), ("dark", "", ""), ("dark", False, ""),
                      ("dark", None, 0), ("dark", None, "2"), ("bell", None, b""), ("bell", None)):
            self.wrong((), thing, "b")
            self.wrong(("list", 2), self.with_things((("list", 2), thing)))
        # The tuple itself goes ahead of what is inside it.
        self.wrong((), ("door", "wrong", "x"), "b")
        self.wrong(("door",), ("door", "wrong", ""), "b")
        self.wrong(("door", "x"), ("door", {"x": 2, "y": 0}, ""), "b")
        self.wrong(("door", "y"), ("door", {"x": 1, "y": 0}, ""), "b")
        self.wrong(("door", "y", 0), ("door", {"x": 1, "y": [5]}, ""), "b")
        self.wrong(("bell",), ("bell", 0, ""), "b")
        self.wrong(("bell",), ("bell", "", ""), "b")

    def test_rooms(self):
        for thing in (None, (), (None,), (None, "", ""), [None, ""], (0, ""), (False, ""), (None, None), (None, "x"), (None, 0)):
            self.wrong(("gap",), self.with_things((("gap",), thing)))
        for thing in (None, (), ({"x": 0, "y": []},), [{"x": 0, "y": []}, ""], ({"x": 0, "y": []}, 0), (None, ""), ({}, "")):
            self.wrong(("room",), self.with_things((("room",), thing)))
        self.wrong(("room", "x"), self.with_things((("room",), ({"x": None, "y": None}, ""))))
        self.wrong(("room", "y", 0), self.with_things((("room",), ({"x": 0, "y": [None]}, ""))))

    def test_too_long_bodies(self):
        inside = {"x": 0, "y": []}
        for kind, make, most in (
            ("b", lambda rest: ("door", inside, rest), 5), ("b", lambda rest: ("dark", None, rest), 7),
            ("b", lambda rest: ("bell", None, rest), 7),
        ):
            for size in range(most + 1):
                self.assertTrue(is_value(self.edition, make("1" * size), kind))
            for size in (most + 1, most + 2, 4000):
                self.wrong((make("")[0],), make("1" * size), kind)
        self.wrong(("room",), self.with_things((("room",), (inside, "1" * 6))))
        self.assertTrue(is_value(self.edition, self.with_things((("room",), (inside, "1" * 5)))))
        self.wrong(("gap",), self.with_things((("gap",), (None, "1" * 8))))
        self.wrong(("list", 3, "dark"), self.with_things((("list", 3), ("dark", None, "0" * 8))))

    def test_a_body_is_looked_at_behind_what_is_inside_it(self):
        self.wrong(("door", "y"), ("door", {"x": 0, "y": None}, "1" * 9), "b")
        self.wrong(("bell",), ("bell", 0, "1" * 9), "b")
        self.wrong(("room", "x"), self.with_things((("room",), ({"x": 9, "y": []}, "1" * 9))))
        nested = Edition({
            "a": Choice([Way("0", "w", Nothing()), Door("1", "d", Call("b"))]),
            "b": Choice([Way("0", "w", Nothing()), Door("1", "e", BIT)]),
        }, "a", 3)
        for value, path in (
            (("d", ("e", 0, "1" * 6), "1"), None), (("d", ("e", 0, "1" * 7), "1"), ("d", "e")),
            (("d", ("e", 0, "1" * 7), "1" * 9), ("d", "e")), (("d", ("e", 0, "1" * 2), "1"), ("d",)),
            (("d", ("e", 0, "1" * 2), ""), "fits"), (("d", ("e", 0, ""), "11"), "fits"), (("d", ("e", 0, ""), "111"), ("d",)),
        ):
            if path == "fits":
                self.assertTrue(is_value(nested, value))
            else:
                with self.assertRaises(BadValue) as caught:
                    written(nested, value)
                self.assertEqual(caught.exception.path, ("d",) if path is None else path)

    def test_the_first_wrong_thing_in_the_order_of_the_bits(self):
        wrongs = [
            (("num",), 6, ("num",)), (("list", 0), ("nil", 0), ("list", 0, "nil")), (("list", 3), ("dark", 0, ""), ("list", 3)),
            (("list", 4), ("bell", None, "1" * 8), ("list", 4, "bell")), (("room",), ({"x": 0, "y": []}, "1" * 6), ("room",)),
            (("gap",), (0, ""), ("gap",)), (("few",), [0, 0], ("few",)), (("last",), ("odd", 0), ("last",)),
        ]
        for first in range(len(wrongs)):
            for second in range(first, len(wrongs)):
                value = self.with_things(*[(place, thing) for place, thing, _ in (wrongs[second], wrongs[first])])
                self.wrong(wrongs[first][2], value)

    def test_no_kind(self):
        for thing in strange_things() + ["num", "abc"]:
            if thing is not None and not (type(thing) is str and thing in ("a", "b", "c")):
                for value in (self.good(), 5):
                    with self.assertRaises(NoKind):
                        written(self.edition, value, thing)
                    with self.assertRaises(NoKind):
                        is_value(self.edition, value, thing)

    def test_by_name(self):
        self.assertEqual(written(edition=self.edition, value=("nil", None), kind="b"), "00")
        self.assertTrue(is_value(edition=self.edition, thing=("nil", None), kind="b"))
        self.assertFalse(is_value(self.edition, ("nil", None), None))
        self.assertEqual(written(self.edition, self.good(), None), written(self.edition, self.good(), "a"))


if __name__ == "__main__":
    unittest.main()
