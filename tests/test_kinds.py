import itertools
import unittest

from roomleft.errors import BadKind
from roomleft.kinds import Bits, Call, Choice, Door, Items, Nothing, Number, Part, Room, Row, Way
from tests.strange import interface_objects, strange_things

LETTERS = set("abcdefghijklmnopqrstuvwxyz")


def is_int(thing):
    return type(thing) is int


def is_name(thing):
    return type(thing) is str and 1 <= len(thing) <= 8 and set(thing) <= LETTERS


def is_word(thing):
    return type(thing) is str and 1 <= len(thing) <= 8 and set(thing) <= {"0", "1"}


def is_simple(thing):
    return type(thing) in (Number, Bits, Items, Call)


class KindsTest(unittest.TestCase):
    def refused(self, part, make, *things, **named):
        with self.assertRaises(BadKind) as caught:
            make(*things, **named)
        self.assertEqual(caught.exception.part, part, (make, things, named))

    def fields(self, thing, **fields):
        self.assertEqual({name: getattr(thing, name) for name in fields}, fields)

    def swept(self, make, good, **is_right):
        """Puts every strange thing into each place of a good call."""
        for name in is_right:
            for thing in strange_things():
                given = {**good, name: thing}
                for call in (lambda: make(**given), lambda: make(*given.values())):
                    if is_right[name](thing):
                        self.assertIs(getattr(call(), name), thing)
                    else:
                        self.refused(name, call)

    def first_told(self, make, good, wrong):
        """Of several wrong arguments the first one is told."""
        for bad in itertools.product((False, True), repeat=len(good)):
            given = {name: wrong[name] if is_bad else good[name] for name, is_bad in zip(good, bad)}
            if any(bad):
                self.refused(list(good)[bad.index(True)], make, **given)
            else:
                make(**given)


class SimpleKindsTest(KindsTest):
    def test_nothing(self):
        self.assertEqual(Nothing(), Nothing())
        with self.assertRaises(TypeError):
            Nothing(1)

    def test_number_fields(self):
        self.fields(Number(3, 9), low=3, high=9, width=None)
        self.fields(Number(-3, 9, 4), low=-3, high=9, width=4)
        self.fields(Number(high=9, width=60, low=2), low=2, high=9, width=60)

    def test_number_strange_things(self):
        self.swept(
            Number, {"low": 0, "high": 1, "width": None},
            high=lambda thing: is_int(thing) and 2 <= thing + 1 <= 2 ** 60,
            width=lambda thing: thing is None or is_int(thing) and 1 <= thing <= 60,
        )

    def test_number_low_is_told_only_if_it_is_no_integer(self):
        for thing in strange_things():
            if is_int(thing):
                Number(thing, thing + 1)
                self.refused("high", Number, thing, thing)
            else:
                self.refused("low", Number, thing, 1)
                self.refused("low", Number, thing, thing)

    def test_number_how_many(self):
        for low in (0, 5, -7, 10 ** 60 - 1, -(10 ** 60) + 1, 10 ** 59):
            self.refused("high", Number, low, low - 1)
            self.refused("high", Number, low, low)
            self.fields(Number(low, low + 1), low=low, high=low + 1, width=None)
            top = low + 2 ** 60 - 1
            self.fields(Number(low, top, 60), low=low, high=top, width=60)
            self.refused("high", Number, low, top + 1)
            self.refused("high", Number, low, top + 1, 60)
        self.refused("high", Number, -(10 ** 60) + 1, 10 ** 60 - 1)

    def test_number_width(self):
        for width in range(1, 60):
            self.fields(Number(4, 4 + 2 ** width - 1, width), low=4, high=3 + 2 ** width, width=width)
            self.refused("width", Number, 4, 4 + 2 ** width, width)
            Number(4, 4 + 2 ** width, width + 1)
        Number(4, 5, 60)
        for width in (0, -1, 61, 100, 10 ** 59):
            self.refused("width", Number, 4, 5, width)
        self.refused("width", Number, 0, 2, 1)

    def test_number_several_wrong(self):
        self.first_told(Number, {"low": 0, "high": 4, "width": 3}, {"low": True, "high": "4", "width": 61})
        self.refused("high", Number, 0, 0, 0)
        self.refused("high", Number, 0, True, 0)
        self.refused("low", Number, False, True, True)

    def test_bits(self):
        self.swept(Bits, {"many": 3}, many=lambda thing: is_int(thing) and 1 <= thing <= 16)
        for many in range(1, 17):
            self.fields(Bits(many), many=many)
        for many in (0, -1, 17, 100):
            self.refused("many", Bits, many)

    def test_items(self):
        self.swept(
            Items, {"item": Bits(1), "width": 2},
            item=lambda thing: type(thing) in (Number, Bits, Call),
            width=lambda thing: thing is None or is_int(thing) and 1 <= thing <= 3,
        )
        for width in (None, 1, 2, 3):
            self.fields(Items(Call("a"), width), item=Call("a"), width=width)
        self.fields(Items(Bits(1)), item=Bits(1), width=None)
        for width in (0, 4, -1):
            self.refused("width", Items, Bits(1), width)
        self.refused("item", Items, Items(Bits(1)))
        self.refused("item", Items, Nothing())
        self.first_told(Items, {"item": Bits(1), "width": 1}, {"item": Items(Bits(1)), "width": True})

    def test_call(self):
        self.swept(Call, {"name": "kind"}, name=is_name)
        for name in ("a", "z", "abcdefgh"):
            self.fields(Call(name), name=name)
        for name in ("", "abcdefghi", "A", "a-", "`", "{", "\u00e9", "a\n"):
            self.refused("name", Call, name)


class WaysTest(KindsTest):
    def test_way(self):
        self.swept(
            Way, {"word": "01", "name": "up", "kind": Bits(2)},
            word=is_word, name=is_name, kind=lambda thing: is_simple(thing) or type(thing) is Nothing,
        )
        self.first_told(
            Way, {"word": "1", "name": "a", "kind": Nothing()}, {"word": "", "name": "", "kind": None},
        )

    def test_door(self):
        self.swept(
            Door, {"word": "01", "name": "up", "kind": Bits(2)},
            word=is_word, name=is_name, kind=lambda thing: thing is None or is_simple(thing) or type(thing) is Nothing,
        )
        self.first_told(
            Door, {"word": "1", "name": "a", "kind": None}, {"word": "2", "name": "A", "kind": 0},
        )

    def test_part(self):
        self.swept(Part, {"name": "up", "kind": Bits(2)}, name=is_name, kind=is_simple)
        self.first_told(Part, {"name": "a", "kind": Bits(1)}, {"name": b"a", "kind": Nothing()})

    def test_room(self):
        self.swept(
            Room, {"word": "01", "name": "up", "kind": Bits(2)},
            word=is_word, name=is_name, kind=lambda thing: thing is None or is_simple(thing),
        )
        self.first_told(
            Room, {"word": "1", "name": "a", "kind": None}, {"word": 1, "name": None, "kind": Nothing()},
        )

    def test_edges_of_words_and_names(self):
        for make in (Way, Door, Room):
            for word in ("0", "1", "01010101", "11111111"):
                self.fields(make(word, "abcdefgh", Bits(1)), word=word, name="abcdefgh", kind=Bits(1))
            for word in ("", "000000000", "012", "0 ", "\u0661"):
                self.refused("word", make, word, "a", Bits(1))
            self.refused("name", make, "0", "abcdefghi", Bits(1))
            self.refused("name", make, "0", "", Bits(1))


class ChoiceTest(KindsTest):
    def ways(self, *words):
        return [Way(word, "abcdefghijklmno"[at], Nothing()) for at, word in enumerate(words)]

    def test_kept_as_a_tuple(self):
        ways = [Way("0", "a", Bits(1)), Door("1", "b", None)]
        for given in (ways, tuple(ways)):
            self.assertEqual(Choice(given).ways, tuple(ways))
            self.assertIs(type(Choice(ways=given).ways), tuple)

    def test_a_changed_list_changes_nothing(self):
        ways = self.ways("0", "10")
        choice = Choice(ways)
        ways.append(5)
        del ways[0]
        self.assertEqual(choice.ways, tuple(self.ways("0", "10")))

    def test_strange_things(self):
        for thing in strange_things():
            self.refused("ways", Choice, thing)
            for place in range(3):
                ways = self.ways("00", "01", "10")
                ways[place] = thing
                if type(thing) not in (Way, Door) or thing.word in ("0", "1") and place != 2:
                    self.refused("ways", Choice, ways)

    def test_how_many(self):
        words = [format(k, "04b") for k in range(13)]
        for many in range(1, 13):
            self.assertEqual(len(Choice(self.ways(*words[:many])).ways), many)
        self.refused("ways", Choice, self.ways(*words))
        self.refused("ways", Choice, [])
        self.refused("ways", Choice, ())

    def test_words(self):
        for words in (("0", "0"), ("0", "00"), ("00", "0"), ("1", "0", "10"), ("01", "10", "1"), ("0", "1", "1" * 8)):
            self.refused("ways", Choice, self.ways(*words))
            doors = [Door(way.word, way.name, None) for way in self.ways(*words)]
            self.refused("ways", Choice, self.ways(*words)[:1] + doors[1:])
        Choice(self.ways("0", "10", "110", "11111111"))
        Choice(self.ways("01", "10", "110", "00"))

    def test_names(self):
        self.refused("ways", Choice, [Way("0", "a", Nothing()), Way("1", "a", Bits(1))])
        self.refused("ways", Choice, [Way("0", "a", Nothing()), Door("1", "a", None)])

    def test_without_a_way(self):
        self.refused("ways", Choice, [Door("0", "a", None)])
        self.refused("ways", Choice, [Door("0", "a", Bits(1)), Door("1", "b", Nothing())])
        Choice([Door("0", "a", None), Way("1", "b", Nothing())])


class RowTest(KindsTest):
    def parts(self, many):
        return [Part("abcdefghij"[at], Bits(1)) for at in range(many)]

    def test_kept_as_a_tuple(self):
        parts = [Room("0", "a", None), Part("b", Bits(1))]
        for given in (parts, tuple(parts)):
            self.assertEqual(Row(given).parts, tuple(parts))
            self.assertIs(type(Row(parts=given).parts), tuple)

    def test_a_changed_list_changes_nothing(self):
        parts = self.parts(3)
        row = Row(parts)
        parts.clear()
        self.assertEqual(row.parts, tuple(self.parts(3)))

    def test_strange_things(self):
        for thing in strange_things():
            self.refused("parts", Row, thing)
            for place in range(3):
                parts = self.parts(3)
                parts[place] = thing
                if type(thing) is Part or type(thing) is Room and place < 2:
                    self.assertEqual(Row(parts).parts, tuple(parts))
                else:
                    self.refused("parts", Row, parts)

    def test_how_many(self):
        for many in range(1, 9):
            self.assertEqual(len(Row(self.parts(many)).parts), many)
        self.refused("parts", Row, self.parts(9))
        self.refused("parts", Row, [])
        rooms = [Room("1", "r" + "abcdefgh"[at], None) for at in range(8)]
        Row(rooms[:7] + self.parts(1))
        self.refused("parts", Row, rooms + self.parts(1))

    def test_names(self):
        self.refused("parts", Row, [Part("a", Bits(1)), Part("a", Bits(2))])
        self.refused("parts", Row, [Room("1", "a", None), Part("a", Bits(2))])
        self.refused("parts", Row, [Room("1", "a", None), Room("0", "a", None), Part("b", Bits(2))])

    def test_the_last_one_is_a_part(self):
        self.refused("parts", Row, [Part("a", Bits(1)), Room("1", "b", None)])
        self.refused("parts", Row, [Room("1", "b", None)])
        self.refused("parts", Row, [Room("1", "b", Bits(1)), Room("0", "c", None)])


class EqualityTest(unittest.TestCase):
    def differ(self, *things):
        for at, one in enumerate(things):
            for number, other in enumerate(things):
                self.assertEqual(one == other, at == number, (one, other))
                self.assertEqual(one != other, at != number)

    def test_of_one_class(self):
        self.differ(Number(0, 1), Number(0, 2), Number(1, 2), Number(0, 1, 1), Number(0, 1, 2))
        self.differ(Bits(1), Bits(2))
        self.differ(Call("a"), Call("b"))
        self.differ(Items(Bits(1)), Items(Bits(2)), Items(Bits(1), 1), Items(Bits(1), 2), Items(Number(0, 1)))

    def test_made_twice(self):
        for one, other in zip(interface_objects()[:15], interface_objects()[:15]):
            self.assertIsNot(one, other)
            self.assertTrue(one == other)
            self.assertTrue(other == one)
            self.assertFalse(one != other)

    def inner_kinds(self):
        return [Number(0, 1), Number(0, 1, 1), Bits(1), Items(Bits(1)), Items(Number(0, 1)), Items(Call("a"), 1), Call("a")]

    def test_through_and_through(self):
        inner = self.inner_kinds()
        self.differ(*[Part("a", kind) for kind in inner])
        self.differ(*[Way("0", "a", kind) for kind in inner + [Nothing()]])
        self.differ(*[Door("0", "a", kind) for kind in inner + [Nothing(), None]])
        self.differ(*[Room("0", "a", kind) for kind in inner + [None]])
        self.differ(*[Row([Part("a", kind)]) for kind in inner])
        self.differ(*[Choice([Way("0", "a", kind)]) for kind in inner + [Nothing()]])
        self.differ(*[Items(kind) for kind in inner if type(kind) is not Items])

    def test_words_and_names(self):
        for make in (Way, Door, Room):
            self.differ(make("0", "a", Bits(1)), make("1", "a", Bits(1)), make("0", "b", Bits(1)))
        self.differ(Part("a", Bits(1)), Part("b", Bits(1)))

    def test_unlike_classes_in_one_place(self):
        last = Way("1", "b", Nothing())
        self.differ(
            Choice([Way("0", "a", Bits(1)), last]), Choice([Door("0", "a", Bits(1)), last]), Choice([last]),
            Choice([last, Way("0", "a", Bits(1))]), Choice([Door("0", "a", None), last]),
        )
        part = Part("b", Bits(1))
        self.differ(
            Row([Part("a", Bits(1)), part]), Row([Room("0", "a", Bits(1)), part]), Row([Room("0", "a", None), part]),
            Row([part]), Row([part, Part("a", Bits(1))]),
        )

    def test_lists_and_tuples_make_the_same(self):
        ways = [Way("0", "a", Bits(1))]
        parts = [Part("a", Bits(1))]
        self.assertEqual(Choice(ways), Choice(tuple(ways)))
        self.assertEqual(Row(parts), Row(tuple(parts)))


if __name__ == "__main__":
    unittest.main()
