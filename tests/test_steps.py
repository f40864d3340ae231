import random
import unittest

from roomleft.editions import Edition
from roomleft.errors import BadBits, NoStep, RoomError
from roomleft.free import room_words, way_words
from roomleft.kinds import Bits, Call, Choice, Door, Items, Nothing, Number, Part, Room, Row, Way
from roomleft.reading import is_own, read
from roomleft.steps import AddKind, AddRoom, AddWay, TellBody, Widen, steps_to, taken
from tests.lists import BIT, THREE, ErrorsCase, Listed, random_editions, row
from tests.oracle import rows
from tests.strange import strange_things

CLASSES = {AddKind: 2, AddWay: 2, AddRoom: 3, TellBody: 3, Widen: 3}


def first():
    """An edition that each step can be taken by."""
    return Edition({
        "car": Row([Room("1110", "room", None), Part("speed", Number(0, 99, 7)), Part("sort", Call("sort"))]),
        "sort": Choice([Way("0", "van", Nothing()), Way("10", "bus", Number(1, 3, 3)), Door("110", "new", None),
                        Door("1110", "known", THREE)]),
        "number": Number(-5, 5, 4), "tight": Number(0, 2), "bits": Bits(3), "items": Items(THREE),
        "full": row(*[Bits(1)] * 8), "call": Call("bits"),
    }, "car", 4)


def changed(edition, **kinds):
    return Edition({**edition.kinds, **kinds}, edition.root, edition.count)


class FieldsTest(unittest.TestCase):
    def test_fields(self):
        names = {AddKind: "name kind", AddWay: "name way", AddRoom: "name index room", TellBody: "name inner kind",
                 Widen: "name inner high"}
        for made, many in CLASSES.items():
            things = [object() for _ in range(many)]
            step = made(*things)
            self.assertEqual(list(vars(step)), names[made].split())
            self.assertTrue(all(one is other for one, other in zip(vars(step).values(), things)))
            self.assertEqual(vars(made(**dict(zip(names[made].split(), things)))), vars(step))

    def test_creating_checks_nothing(self):
        for made, many in CLASSES.items():
            for thing in strange_things():
                made(*[thing] * many)

    def test_equality(self):
        for made, many in CLASSES.items():
            one = made(*["a"] * many)
            self.assertTrue(one == made(*["a"] * many))
            self.assertFalse(one != made(*["a"] * many))
            for at in range(many):
                other = made(*["b" if k == at else "a" for k in range(many)])
                self.assertFalse(one == other)
                self.assertTrue(other != one)
            for other in CLASSES:
                if other is not made:
                    self.assertFalse(one == other(*["a"] * CLASSES[other]))

    def test_equality_of_fields(self):
        self.assertTrue(AddKind("a", Row([Part("p", BIT)])) == AddKind("a", Row((Part("p", Number(0, 1)),))))
        self.assertFalse(AddKind("a", Bits(1)) == AddKind("a", BIT))
        self.assertFalse(AddWay("a", Way("0", "a", BIT)) == AddWay("a", Door("0", "a", BIT)))
        self.assertTrue(AddRoom("a", 1, Room("0", "a", None)) == AddRoom("a", 1, Room("0", "a", None)))
        self.assertFalse(AddRoom("a", 1, Room("0", "a", None)) == AddRoom("a", 1, Room("0", "a", BIT)))
        self.assertFalse(AddRoom("a", 1, None) == AddRoom("a", True, None))
        self.assertFalse(Widen("a", None, 5) == Widen("a", "", 5))
        self.assertFalse(TellBody("a", "b", None) == "a")


class TakenTest(ErrorsCase):
    def test_each_step(self):
        elder = first()
        sort, car = elder.kinds["sort"], elder.kinds["car"]
        ways, parts = list(sort.ways), list(car.parts)
        for step, kinds in (
            (AddKind("more", Items(Call("sort"), 2)), {"more": Items(Call("sort"), 2)}),
            (AddKind("more", Call("car")), {"more": Call("car")}),
            (AddWay("sort", Way("1111", "tram", BIT)), {"sort": Choice(ways + [Way("1111", "tram", BIT)])}),
            (AddWay("sort", Door("11110", "tram", None)), {"sort": Choice(ways + [Door("11110", "tram", None)])}),
            (AddRoom("car", 2, Room("1111", "more", None)), {"car": Row(parts[:2] + [Room("1111", "more", None)] + parts[2:])}),
            (AddRoom("car", 0, Room("1111", "more", BIT)), {"car": Row([Room("1111", "more", BIT)] + parts)}),
            (TellBody("car", "room", Bits(15)), {"car": Row([Room("1110", "room", Bits(15))] + parts[1:])}),
            (TellBody("sort", "new", Nothing()), {"sort": Choice(ways[:2] + [Door("110", "new", Nothing())] + ways[3:])}),
            (TellBody("sort", "new", Call("bits")),
             {"sort": Choice(ways[:2] + [Door("110", "new", Call("bits"))] + ways[3:])}),
            (Widen("car", "speed", 100), {"car": Row([parts[0], Part("speed", Number(0, 100, 7)), parts[2]])}),
            (Widen("sort", "bus", 8), {"sort": Choice([ways[0], Way("10", "bus", Number(1, 8, 3))] + ways[2:])}),
            (Widen("sort", "known", 3), {"sort": Choice(ways[:3] + [Door("1110", "known", Number(0, 3, 2))])}),
            (Widen("number", None, 10), {"number": Number(-5, 10, 4)}),
        ):
            kept = type(step)(**vars(step))
            later = taken(elder, step)
            self.assertEqual(later, changed(elder, **kinds))
            self.assertEqual(elder, first())
            self.assertEqual(step, kept)
            self.assertEqual(taken(step=step, edition=elder), later)
            self.assertEqual(list(later.kinds), list(elder.kinds) + [name for name in kinds if name not in elder.kinds])

    def test_widen_a_known_room_as_a_whole(self):
        elder = Edition({"a": Row([Room("11", "r", THREE), Part("p", THREE)])}, "a", 2)
        self.assertEqual(taken(elder, Widen("a", "r", 3)).kinds["a"].parts[0].kind, Number(0, 3, 2))
        self.raises(NoStep("room"), taken, elder, Widen("a", "p", 3))

    def test_20_kinds_12_ways_8_parts(self):
        elder = Edition({name: BIT for name in "abcdefghijklmnopqrs"}, "a", 1)
        full = taken(elder, AddKind("t", Bits(1)))
        self.assertEqual(len(full.kinds), 20)
        self.raises(NoStep("name"), taken, full, AddKind("u", Bits(1)))
        self.raises(NoStep("name"), taken, full, AddKind("u", 5))
        ways = [Way(bits, "abcdefghijkl"[at], Nothing()) for at, bits in enumerate(rows(4)[:11])]
        elder = taken(Edition({"a": Choice(ways)}, "a", 1), AddWay("a", Way("1111", "l", BIT)))
        self.assertEqual(len(elder.kinds["a"].ways), 12)
        self.raises(NoStep("many"), taken, elder, AddWay("a", Way("1110", "m", BIT)))
        self.raises(NoStep("many"), taken, elder, AddWay("a", Door("1111", "l", None)))
        elder = Edition({"a": row(*[THREE] * 7)}, "a", 1)
        elder = taken(elder, AddRoom("a", 6, Room("11", "z", None)))
        self.assertEqual(len(elder.kinds["a"].parts), 8)
        self.raises(NoStep("many"), taken, elder, AddRoom("a", 7, Room("1100", "y", None)))
        self.raises(NoStep("many"), taken, elder, AddRoom("a", 7, Room("0", "z", None)))


class ReasonsTest(ErrorsCase):
    def setUp(self):
        self.one = first()

    def refused(self, reason, step):
        self.raises(NoStep(reason), taken, self.one, step)
        self.assertEqual(self.one, first())

    def test_step(self):
        for thing in strange_things() + [self.one, [AddKind("a", BIT)], AddKind, "AddKind", None]:
            self.refused("step", thing)

    def test_name(self):
        for name in ("car", "", "Car", "ninelette", None, 0, ["a"], "a1"):
            self.refused("name", AddKind(name, None))
        for name in ("car", "number", "bits", "items", "call", "no", None, 0, ["sort"]):
            self.refused("name", AddWay(name, None))
        for name in ("sort", "number", "bits", "items", "call", "no", None, 0, ["car"]):
            self.refused("name", AddRoom(name, 9, None))
        for name in ("number", "bits", "items", "call", "no", None, 0, ["car"]):
            self.refused("name", TellBody(name, 7, None))
            self.refused("name", Widen(name, "speed", None))
        for name in ("car", "sort", "bits", "items", "call", "no", None, 0, ["number"]):
            self.refused("name", Widen(name, None, None))
        for thing in strange_things():
            for made, many in CLASSES.items():
                if made is not AddKind:
                    self.refused("name", made(thing, *[thing] * (many - 1)))
                elif not (isinstance(thing, str) and thing.isascii() and thing.islower() and thing.isalpha()
                          and len(thing) <= 8):
                    self.refused("name", made(thing, BIT))

    def test_index(self):
        for index in (3, -1, True, False, None, "0", 10 ** 59, [0]):
            self.refused("index", AddRoom("car", index, None))
            self.refused("index", AddRoom("car", index, Room("1111", "more", None)))
        for thing in strange_things():
            if isinstance(thing, bool) or not isinstance(thing, int) or not 0 <= thing <= 2:
                self.refused("index", AddRoom("car", thing, thing))

    def test_inner(self):
        for inner in ("speed", "sort", "no", "", None, 0, ["room"], "van"):
            self.refused("inner", TellBody("car", inner, None))
        for inner in ("van", "bus", "room", None):
            self.refused("inner", TellBody("sort", inner, BIT))
        for inner in ("no", "", 0, False, ["speed"], "van", b"speed"):
            self.refused("inner", Widen("car", inner, None))
        for thing in strange_things():
            self.refused("inner", TellBody("sort", thing, thing))
            if thing is not None:
                self.refused("inner", Widen("sort", thing, thing))

    def test_kind(self):
        for thing in strange_things():
            if not isinstance(thing, (Number, Bits, Items, Call, Choice, Row)):
                self.refused("kind", AddKind("more", thing))
            if not isinstance(thing, (Way, Door)):
                self.refused("kind", AddWay("sort", thing))
            if not isinstance(thing, Room):
                self.refused("kind", AddRoom("car", 0, thing))
            if not isinstance(thing, (Number, Bits, Items, Call)):
                self.refused("kind", TellBody("car", "room", thing))
                if not isinstance(thing, Nothing):
                    self.refused("kind", TellBody("sort", "new", thing))
            self.refused("kind", TellBody("sort", "known", thing))
        for inner in ("sort", "room"):
            self.refused("kind", Widen("car", inner, None))
        for inner in ("van", "new"):
            self.refused("kind", Widen("sort", inner, 9))
        self.refused("kind", Widen("tight", None, 5))

    def test_high(self):
        for high in (99, 98, -1, 128, None, True, "100", [100], 10 ** 59):
            self.refused("high", Widen("car", "speed", high))
        alone = Edition({"a": row(Number(0, 99, 7))}, "a", 1)
        self.assertEqual(taken(alone, Widen("a", "p", 127)).kinds["a"].parts[0].kind, Number(0, 127, 7))
        for high in (5, 4, 11, 10 ** 59, -(10 ** 59)):
            self.refused("high", Widen("number", None, high))
        for thing in strange_things():
            if not (isinstance(thing, int) and thing in (6, 7)):
                self.refused("high", Widen("number", None, thing))
        self.one = Edition({"a": Number(3, 4, 60)}, "a", 1)
        self.assertEqual(taken(self.one, Widen("a", None, 2 ** 60 + 2)).kinds["a"].high, 2 ** 60 + 2)
        self.raises(NoStep("high"), taken, self.one, Widen("a", None, 2 ** 60 + 3))

    def test_same_and_word(self):
        for name in ("van", "bus", "new", "known"):
            self.refused("same", AddWay("sort", Way("1111", name, BIT)))
            self.refused("same", AddWay("sort", Door("0", name, None)))
        for name in ("room", "speed", "sort"):
            self.refused("same", AddRoom("car", 2, Room("1111", name, None)))
            self.refused("same", AddRoom("car", 2, Room("0", name, Call("no"))))
        for word in ("0", "1", "00", "11", "110", "1100", "111", "11100000"):
            self.refused("word", AddWay("sort", Way(word, "tram", Call("no"))))
            self.refused("word", AddWay("sort", Door(word, "tram", None)))

    def test_what_the_later_edition_would_raise(self):
        self.refused("missing", AddKind("more", row(Call("more"), Call("no"))))
        self.refused("missing", AddWay("sort", Way("1111", "tram", Items(Call("no")))))
        self.refused("missing", AddRoom("car", 1, Room("0", "more", Call("no"))))
        self.refused("missing", TellBody("car", "room", Call("no")))
        self.refused("ring", AddKind("more", Items(Call("more"))))
        self.refused("ring", AddWay("sort", Door("1111", "tram", Call("car"))))
        self.refused("ring", AddRoom("car", 1, Room("0", "more", Call("car"))))
        self.refused("ring", TellBody("sort", "new", Items(Call("car"))))
        self.refused("long", AddKind("more", Row([Room("0", "r", Bits(16)), Part("p", BIT)])))
        self.refused("long", AddWay("sort", Door("1111", "tram", Items(BIT))))
        self.refused("long", AddRoom("car", 1, Room("0", "more", Bits(16))))
        self.refused("long", TellBody("car", "room", Call("items")))
        self.refused("room", AddKind("more", Row([Room("0", "r", Bits(1)), Part("p", BIT)])))
        self.refused("room", AddRoom("car", 1, Room("0", "more", None)))
        self.refused("room", AddRoom("car", 0, Room("1110", "more", None)))
        self.refused("room", AddRoom("car", 1, Room("111", "more", None)))
        self.refused("room", Widen("car", "speed", 113))
        self.assertEqual(taken(self.one, Widen("car", "speed", 111)).kinds["car"].parts[1].kind.high, 111)

    def test_rooms_of_rows_that_call(self):
        kinds = {"a": Row([Room("11", "r", None), Part("p", Call("b"))]), "b": Choice([Way("0", "a", BIT)]),
                 "c": Row([Part("p", Number(0, 4, 3)), Part("q", Call("b"))])}
        self.one = Edition(kinds, "a", 1)
        self.raises(NoStep("room"), taken, self.one, AddWay("b", Way("1", "b", BIT)))
        self.raises(NoStep("room"), taken, self.one, AddWay("b", Door("110", "b", None)))
        self.assertEqual(len(taken(self.one, AddWay("b", Way("10", "b", BIT))).kinds["b"].ways), 2)
        self.raises(NoStep("room"), taken, self.one, AddRoom("a", 1, Room("11", "s", None)))
        self.assertEqual(len(taken(self.one, AddRoom("a", 1, Room("10", "s", None))).kinds["a"].parts), 3)

    def test_the_first_of_several_reasons(self):
        ways = [Way(bits, "abcdefghijkl"[at], Nothing()) for at, bits in enumerate(rows(4)[:12])]
        self.one = Edition({"a": Choice(ways), "b": row(*[Bits(1)] * 8), "c": Row([Room("11", "r", None), Part("p", THREE)]),
                            "d": Choice([Way("0", "a", Number(0, 5)), Door("10", "b", BIT)])}, "a", 1)
        for reason, step in (
            ("name", AddKind("a", None)), ("name", AddRoom("a", -1, None)), ("index", AddRoom("b", 8, None)),
            ("kind", AddRoom("b", 0, Way("0", "a", BIT))), ("many", AddRoom("b", 0, Room("0", "p", Call("no")))),
            ("same", AddRoom("c", 0, Room("0", "p", Call("no")))), ("missing", AddRoom("c", 0, Room("0", "q", Call("no")))),
            ("ring", AddRoom("c", 0, Room("0", "q", Call("c")))), ("long", AddRoom("c", 0, Room("0", "q", Bits(2)))),
            ("room", AddRoom("c", 0, Room("0", "q", Bits(1)))), ("name", AddWay("b", None)), ("kind", AddWay("a", None)),
            ("many", AddWay("a", Way("0", "a", Call("no")))), ("same", AddWay("d", Way("0", "a", Call("no")))),
            ("word", AddWay("d", Way("0", "c", Call("no")))), ("missing", AddWay("d", Way("11", "c", Call("no")))),
            ("ring", AddWay("d", Door("11", "c", Call("d")))), ("long", AddWay("d", Door("11", "c", Bits(2)))),
            ("name", TellBody("e", "r", None)), ("inner", TellBody("c", "p", None)), ("kind", TellBody("c", "r", Nothing())),
            ("kind", TellBody("d", "b", Call("no"))), ("missing", TellBody("c", "r", Call("no"))),
            ("ring", TellBody("c", "r", Call("c"))), ("long", TellBody("c", "r", Items(BIT))),
            ("name", Widen("c", None, 0)), ("name", Widen("e", 0, 0)), ("inner", Widen("c", "q", 0)),
            ("kind", Widen("c", "r", 0)), ("kind", Widen("d", "a", 0)), ("high", Widen("c", "p", 2)),
            ("room", Widen("c", "p", 3)),
        ):
            self.raises(NoStep(reason), taken, self.one, step)

    def test_missing_ahead_of_ring_and_long(self):
        one = Edition({"a": Choice([Way("0", "a", Nothing()), Door("10", "b", None)])}, "a", 1)
        self.raises(NoStep("missing"), taken, one, AddKind("b", row(Call("b"), Call("c"))))
        ring = Choice([Way("0", "a", Call("b")), Door("1", "b", Bits(2))])
        self.raises(NoStep("ring"), taken, one, AddKind("b", ring))
        long = Row([Room("0", "r", Bits(2)), Part("p", BIT)])
        self.raises(NoStep("long"), taken, one, AddKind("b", long))


def steps_from(luck, edition):
    """A step for an edition, at random; many of them are refused."""
    name = luck.choice(sorted(edition.kinds))
    kind = edition.kinds[name]
    simple = luck.choice([BIT, THREE, Number(0, 2), Bits(2), Items(BIT, 1), Items(BIT), Call(luck.choice(sorted(edition.kinds)))])
    fresh = luck.choice("hijklmno")
    if luck.random() < 0.1:
        return AddKind(fresh, luck.choice([simple, row(simple, THREE)]))
    if isinstance(kind, Choice):
        word = luck.choice(way_words(edition, name, 8) or ["0"]) + luck.choice(["", "", "0", "1"])
        inner = luck.choice(kind.ways)
        return luck.choice([
            AddWay(name, Way(word, fresh, simple)), AddWay(name, Door(word, fresh, None)), Widen(name, inner.name, 3),
            AddWay(name, Door(word, fresh, simple)), TellBody(name, inner.name, luck.choice([simple, Nothing()]))])
    if isinstance(kind, Row):
        index = luck.randrange(len(kind.parts))
        word = luck.choice(room_words(edition, name, index, 7) or ["0"]) + luck.choice(["", "", "0", "1"])
        inner = luck.choice(kind.parts)
        return luck.choice([
            AddRoom(name, index, Room(word, fresh, None)), AddRoom(name, index, Room(word, fresh, simple)),
            TellBody(name, inner.name, simple), Widen(name, inner.name, luck.randint(0, 7))])
    return Widen(name, None, luck.randint(-2, 8))


def chains(seeds):
    """A list of the lists of pairs (step, edition behind it), each beginning with a pair (None, edition)."""
    made = []
    for seed, edition in random_editions(seeds):
        luck = random.Random(seed)
        chain = [(None, edition)]
        for _ in range(12):
            step = steps_from(luck, chain[-1][1])
            try:
                chain.append((step, taken(chain[-1][1], step)))
            except NoStep:
                pass
        made.append(chain)
    return made


class FactsTest(unittest.TestCase):
    def test_own_messages_stay_own_with_their_values(self):
        steps = 0
        for chain in chains(range(0, 700, 2)):
            for at, (_, elder) in enumerate(chain):
                later = chain[-1][1]
                for bits in Listed(elder, elder.root, 9).own[:40]:
                    self.assertIs(is_own(later, bits), True)
                    self.assertEqual(read(later, bits), read(elder, bits))
                steps += at
        self.assertGreater(steps, 1000)

    def test_elder_editions_read_what_tellbody_and_addkind_bring(self):
        tried = {TellBody: 0, AddKind: 0}
        for chain in chains(range(600)):
            for (_, elder), (step, later) in zip(chain, chain[1:]):
                if isinstance(step, (TellBody, AddKind)):
                    for bits in Listed(later, later.root, 11).own[:200]:
                        read(elder, bits)
                    tried[type(step)] += 1
        self.assertGreater(min(tried.values()), 15)

    def test_elder_editions_refuse_what_stands_in_a_new_room(self):
        tried = refused = 0
        for chain in chains(range(600)):
            for (_, elder), (step, later) in zip(chain, chain[1:]):
                if isinstance(step, AddRoom) and step.room.kind is not None:
                    for bits in Listed(later, later.root, 12).own[:300]:
                        if step.room.name in names_in(read(later, bits)):
                            with self.assertRaises(BadBits):
                                read(elder, bits)
                            refused += 1
                        else:
                            self.assertEqual(read(elder, bits), read(later, bits))
                    tried += 1
        self.assertGreater(tried, 50)
        self.assertGreater(refused, 50)

    def test_words_that_are_told_are_those_that_are_taken(self):
        """A room can have just the words that begin with one that room_words tells, if all rooms ahead leave them free."""
        for _, edition in random_editions(range(0, 500, 9)):
            for name, kind in edition.kinds.items():
                if isinstance(kind, Choice):
                    told = way_words(edition, name, 8)
                    for size in range(1, 6):
                        for word in rows(size):
                            expected = None if any(word.startswith(one) for one in told) else "word"
                            found = reason(edition, AddWay(name, Way(word, "new", BIT)))
                            self.assertIn(found, (expected, "room") if expected is None else (expected,))
                elif isinstance(kind, Row):
                    self.rooms_of(edition, name)

    def rooms_of(self, edition, name):
        # Only the last room of all is not behind another one's word, so its row alone is looked at, called by none.
        alone = Edition({**{one: edition.kinds[one] for one in edition.kinds}, name: edition.kinds[name]}, name, edition.count)
        for index in range(len(alone.kinds[name].parts)):
            told = room_words(alone, name, index, 8)
            for size in range(1, 6):
                for word in rows(size):
                    found = reason(alone, AddRoom(name, index, Room(word, "new", None)))
                    if not any(word.startswith(one) for one in told):
                        self.assertEqual(found, "room")
                    elif not any(isinstance(part, Room) for one in alone.kinds.values() if isinstance(one, Row)
                                 for part in one.parts):
                        self.assertIsNone(found)
                    else:
                        self.assertIn(found, (None, "room"))


def names_in(value):
    """All keys of dicts in a value."""
    if isinstance(value, dict):
        return set(value).union(*[names_in(inner) for inner in value.values()])
    if isinstance(value, (list, tuple)):
        return set().union(*[names_in(inner) for inner in value])
    return set()


def reason(edition, step):
    try:
        taken(edition, step)
    except NoStep as error:
        return error.reason
    return None


class StepsToTest(ErrorsCase):
    def test_chains(self):
        """Behind any steps that were taken, steps are found, in their order, and lead there."""
        found = 0
        for chain in chains(range(700)):
            elder, later = chain[0][1], chain[-1][1]
            steps = steps_to(elder, later)
            if steps is None:
                self.assertRaises(RoomError, self.by_hand, elder, later)
                continue
            edition = elder
            for step in steps:
                edition = taken(edition, step)
            self.assertEqual(edition, later)
            self.assertEqual(steps, self.by_hand(elder, later))
            found += len(steps)
        self.assertGreater(found, 900)

    def by_hand(self, elder, later):
        """The list as the document tells it, for a later edition that came by steps; the error if one is refused."""
        steps = []
        there = list(elder.kinds)
        while len(there) < len(later.kinds):
            ready = [name for name in later.kinds if name not in there
                     and all(one in there for one in names_called(later.kinds[name]))]
            steps.append(AddKind(min(ready), later.kinds[min(ready)]))
            there.append(min(ready))
        for name in sorted(elder.kinds):
            one, other = elder.kinds[name], later.kinds[name]
            if isinstance(one, (Choice, Row)):
                steps.extend(self.inside(name, one, other))
            elif one != other:
                steps.append(Widen(name, None, other.high))
        edition = elder
        for step in steps:
            edition = taken(edition, step)
        return steps

    def inside(self, name, one, other):
        elder = {inner.name: inner for inner in (one.ways if isinstance(one, Choice) else one.parts)}
        steps = []
        for index, inner in enumerate(other.ways if isinstance(one, Choice) else other.parts):
            if inner.name not in elder:
                steps.append(AddWay(name, inner) if isinstance(one, Choice) else AddRoom(name, index, inner))
            elif elder[inner.name].kind is None and inner.kind is not None:
                steps.append(TellBody(name, inner.name, inner.kind))
            elif elder[inner.name] != inner:
                steps.append(Widen(name, inner.name, inner.kind.high))
        return steps

    def test_fields_and_order(self):
        elder = first()
        steps = [
            AddKind("a", Call("z")), AddKind("z", Bits(1)), AddKind("b", Items(Call("a"), 1)),
            AddRoom("car", 3, Room("1111", "two", Call("b"))), AddRoom("car", 1, Room("1111", "one", None)),
            TellBody("car", "room", Call("b")), Widen("car", "speed", 100), AddWay("sort", Door("11110", "d", None)),
            Widen("sort", "bus", 7), AddWay("sort", Way("11111", "c", Call("a"))), TellBody("sort", "new", Nothing()),
            Widen("number", None, 6)]
        later = elder
        for step in [steps[1], steps[0], steps[2]] + [steps[4]] + steps[5:]:
            later = taken(later, step)
        self.assertEqual(steps_to(elder, later), [
            AddKind("z", Bits(1)), AddKind("a", Call("z")), AddKind("b", Items(Call("a"), 1)),
            TellBody("car", "room", Call("b")), AddRoom("car", 1, Room("1111", "one", None)), Widen("car", "speed", 100),
            Widen("number", None, 6),
            Widen("sort", "bus", 7), TellBody("sort", "new", Nothing()), AddWay("sort", Door("11110", "d", None)),
            AddWay("sort", Way("11111", "c", Call("a")))])
        self.assertEqual(steps_to(later=later, elder=elder), steps_to(elder, later))

    def test_no_steps(self):
        self.assertEqual(steps_to(first(), first()), [])
        told = steps_to(first(), first())
        told.append(1)
        self.assertEqual(steps_to(first(), first()), [])

    def test_rooms_beside_one_another(self):
        elder = Edition({"a": row(Number(0, 3, 3), Number(0, 3, 3))}, "a", 2)
        parts = list(elder.kinds["a"].parts)
        later = Edition({"a": Row([Room("110", "a", None), Room("111", "b", BIT), parts[0], Room("101", "c", None), parts[1]])},
                        "a", 2)
        self.assertEqual(steps_to(elder, later), [
            AddRoom("a", 0, Room("110", "a", None)), AddRoom("a", 1, Room("111", "b", BIT)),
            AddRoom("a", 3, Room("101", "c", None))])

    def test_none(self):
        elder = first()
        sort, car = elder.kinds["sort"], elder.kinds["car"]
        ways, parts = list(sort.ways), list(car.parts)
        self.assertIsNone(steps_to(elder, Edition(elder.kinds, "sort", 4)))
        self.assertIsNone(steps_to(elder, Edition(elder.kinds, "car", 5)))
        without = elder.kinds
        del without["tight"]
        self.assertIsNone(steps_to(elder, Edition(without, "car", 4)))
        for kinds in (
            {"bits": Items(BIT)}, {"bits": Bits(4)}, {"items": Items(THREE, 1)}, {"items": Items(Number(0, 3, 2))},
            {"call": Call("tight")}, {"tight": Number(0, 3)}, {"tight": Number(0, 2, 2)}, {"number": Number(-5, 4, 4)},
            {"number": Number(-6, 5, 4)}, {"number": Number(-5, 6, 5)}, {"number": Number(-5, 5)}, {"number": Bits(4)},
            {"number": Number(-4, 6, 4)}, {"items": row(BIT)}, {"call": Bits(3)},
            {"sort": Choice([ways[1], ways[0]] + ways[2:])}, {"sort": Choice(ways[:3])}, {"sort": row(BIT)},
            {"sort": Choice(ways[:3] + [Way("1111", "more", BIT), ways[3]])},
            {"sort": Choice([Way("0", "car", Nothing())] + ways[1:])}, {"sort": Choice([Way("0", "van", BIT)] + ways[1:])},
            {"sort": Choice(ways[:2] + [Door("1111", "new", None), ways[3]])},
            {"sort": Choice(ways[:2] + [Way("110", "new", BIT), ways[3]])},
            {"sort": Choice(ways[:3] + [Door("1110", "known", None)])},
            {"sort": Choice(ways[:3] + [Door("1110", "known", Bits(2))])},
            {"sort": Choice(ways[:3] + [Door("1110", "known", Number(0, 1, 2))])},
            {"sort": Choice(ways[:2] + [Door("1111", "new", BIT), ways[3]])},
            {"car": Row(parts[1:])}, {"car": Row([parts[2], parts[0], parts[1]])}, {"car": Row(parts + [Part("more", BIT)])},
            {"car": Row(parts[:2] + [Part("kind", Call("sort"))])}, {"car": Row(parts[:2] + [Part("sort", Call("bits"))])},
            {"car": Row([Room("1111", "room", None)] + parts[1:])}, {"car": Row([Room("1110", "rooms", None)] + parts[1:])},
            {"car": Row([parts[1], Room("1111", "room", None), parts[2]])}, {"car": Row([Part("room", BIT)] + parts[1:])},
            {"car": Choice([Way("0", "van", Nothing())])}, {"car": Row([parts[0], Part("speed", Number(0, 99, 8)), parts[2]])},
        ):
            self.assertIsNone(steps_to(elder, changed(elder, **kinds)), kinds)

    def test_none_if_a_step_is_refused_in_this_order(self):
        """A body that becomes known leaves the word for the room ahead of it: this must come first."""
        sort = Choice([Way("0", "x", Nothing()), Door("1", "y", None)])
        told = Choice([Way("0", "x", Nothing()), Door("1", "y", BIT)])
        room = Row([Room("10", "r", None), Part("p", Call("m"))])
        for name, steps in (
            ("n", [TellBody("m", "y", BIT), AddRoom("n", 0, Room("10", "r", None))]), ("l", None),
        ):
            elder = Edition({"m": sort, name: row(Call("m"))}, name, 1)
            later = Edition({"m": told, name: room}, name, 1)
            self.assertEqual(steps_to(elder, later), steps)
        elder = Edition({"m": sort}, "m", 1)
        self.assertIsNone(steps_to(elder, Edition({"m": told, "n": room}, "m", 1)))
        self.assertEqual(steps_to(Edition({"m": told}, "m", 1), Edition({"m": told, "n": room}, "m", 1)), [AddKind("n", room)])

    def test_kinds_that_are_called(self):
        elder = Edition({"a": Choice([Way("0", "x", Nothing()), Door("1", "y", None)])}, "a", 1)
        later = Edition({"a": Choice([Way("0", "x", Nothing()), Door("1", "y", Call("b"))]), "b": Bits(1)}, "a", 1)
        self.assertEqual(steps_to(elder, later), [AddKind("b", Bits(1)), TellBody("a", "y", Call("b"))])
        kinds = {"m": Call("z"), "b": row(Call("c"), Call("m")), "z": Items(Call("a")), "c": BIT}
        self.assertEqual([step.name for step in steps_to(elder, changed(elder, **kinds))], ["c", "z", "m", "b"])


def names_called(kind):
    if isinstance(kind, Call):
        return [kind.name]
    inner = [kind.item] if isinstance(kind, Items) else []
    inner += [way.kind for way in kind.ways] if isinstance(kind, Choice) else []
    inner += [part.kind for part in kind.parts] if isinstance(kind, Row) else []
    return [name for one in inner for name in names_called(one)]


if __name__ == "__main__":
    unittest.main()
