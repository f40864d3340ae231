import random
import unittest
from itertools import combinations

from roomleft.editions import Edition
from roomleft.errors import TooMany
from roomleft.judging import judge
from roomleft.kinds import Bits, Call, Choice, Door, Items, Nothing, Number, Part, Room, Row, Way
from roomleft.steps import AddRoom, TellBody, taken
from roomleft.tables import check_table, table
from tests.changes import changed_pairs
from tests.lists import BIT, THREE, edition, row
from tests.oracle import codes
from tests.pairs import random_pairs
from tests.strange import interface_objects, strange_things


class Rules:
    """What the document tells of tables, word for word; a table is a set of triples here."""

    def __init__(self, writer, reader):
        self.writer = writer
        self.reader = reader

    def resolve(self, edition, kind, name=None):
        while isinstance(kind, Call):
            name, kind = kind.name, edition.kinds[kind.name]
        return name, kind

    def both(self, kind, other):
        return self.resolve(self.writer, kind) + self.resolve(self.reader, other)

    def alike(self, kind, other, table):
        name, kind, other_name, other = self.both(kind, other)
        if type(kind) is not type(other):
            return False
        if isinstance(kind, Number):
            told = {k: bits for k, bits, _ in codes(other)}
            return all(told.get(k) == bits for k, bits, _ in codes(kind))
        if isinstance(kind, Bits):
            return kind.many == other.many
        if isinstance(kind, Items):
            return kind.width == other.width and self.alike(kind.item, other.item, table)
        if isinstance(kind, Nothing):
            return True
        return (name, other_name, "alike") in table

    def lets(self, kind, other, table):
        """Whether the other one, of the reader, lets the first one."""
        if self.alike(kind, other, table):
            return True
        name, kind, other_name, other = self.both(kind, other)
        if isinstance(other, Nothing):
            return True
        if isinstance(kind, Items) and isinstance(other, Items) and kind.width == other.width == 1:
            return self.lets(kind.item, other.item, table)
        return {(name, other_name, "alike"), (name, other_name, "let")} & table != set()

    def keeps(self, triple, table):
        kind, other = self.writer.kinds[triple[0]], self.reader.kinds[triple[1]]
        inside = self.alike if triple[2] == "alike" else self.lets
        if isinstance(kind, Choice):
            return all(self.keeps_way(way, other, inside, table) for way in kind.ways)
        return self.keeps_rows(kind.parts, other.parts, triple[2], table)

    def keeps_way(self, way, other, inside, table):
        if way.kind is None:
            return True
        for its in other.ways:
            if (its.word, its.name) == (way.word, way.name) and type(its) is type(way):
                if isinstance(way, Way):
                    return inside(way.kind, its.kind, table)
                return self.keeps_body(way, its, table)
        return False

    def keeps_body(self, inner, its, table):
        return self.writer.count == self.reader.count and (its.kind is None or self.lets(inner.kind, its.kind, table))

    def keeps_rows(self, parts, others, word, table):
        if word == "let":
            ahead = sum(isinstance(part, Part) for part in others[:-1])
            begins = [at for at, part in enumerate(parts)
                      if isinstance(part, Part) and sum(isinstance(one, Part) for one in parts[:at]) == ahead]
            if not begins:
                return False
            parts = parts[:begins[0] + 1]
        last = others[-1]
        parts = [part for part in parts if isinstance(part, Part) or part.kind is not None]
        rooms = [(part.word, part.name) for part in parts if isinstance(part, Room)]
        others = [part for part in others if isinstance(part, Part) or (part.word, part.name) in rooms]
        if [(type(part), part.name) for part in parts] != [(type(part), part.name) for part in others]:
            return False
        for part, its in zip(parts, others):
            if isinstance(part, Room):
                if part.word != its.word or not self.keeps_body(part, its, table):
                    return False
            elif word == "let" and its is last:
                if not self.lets(part.kind, its.kind, table):
                    return False
            elif not self.alike(part.kind, its.kind, table):
                return False
        return True

    def is_table(self, triples):
        table = set(triples)
        roots = Call(self.writer.root), Call(self.reader.root)
        return all(self.keeps(triple, table) for triple in table) and self.alike(*roots, table)

    def all_triples(self):
        made = []
        for name, kind in self.writer.kinds.items():
            for other_name, other in self.reader.kinds.items():
                if type(kind) is type(other) and isinstance(kind, (Choice, Row)):
                    made.extend([(name, other_name, "alike"), (name, other_name, "let")])
        return made


def some_pairs():
    return changed_pairs(range(0, 1200, 3)) + random_pairs(range(0, 1500, 10))


class FactTest(unittest.TestCase):
    def test_fourth_main_fact(self):
        found = {True: 0, False: 0}
        for seed, writer, reader in some_pairs():
            try:
                verdict = judge(writer, reader)
            except TooMany:
                continue
            are_read = (verdict.refused, verdict.short, verdict.other) == (None, None, None)
            self.assertEqual(table(writer, reader) is not None, are_read, (seed, vars(verdict)))
            found[are_read] += 1
        self.assertGreater(min(found.values()), 400, found)

    def test_all_sets_of_triples(self):
        """check_table by the rules, and table as the least one of all tables."""
        luck = random.Random(1)
        words = {"alike": 0, "let": 0}
        tables = 0
        for seed, writer, reader in some_pairs():
            rules = Rules(writer, reader)
            triples = rules.all_triples()
            told = table(writer, reader)
            if len(triples) > 8:
                self.check_least(rules, told, seed)
                continue
            sets = [one for many in range(len(triples) + 1) for one in combinations(triples, many)]
            found = [one for one in sets if rules.is_table(one)]
            for one in luck.sample(sets, min(20, len(sets))) + found:
                one = list(one)
                luck.shuffle(one)
                self.assertIs(check_table(writer, reader, one), rules.is_table(one), (seed, one))
            if not found:
                self.assertIsNone(told, seed)
                continue
            least = min(found, key=lambda one: (len(one), sum(triple[2] == "alike" for triple in one)))
            self.assertEqual(told, sorted(least), seed)
            tables += told != []
            for triple in told:
                words[triple[2]] += 1
        self.assertGreater(tables, 200)
        self.assertGreater(min(words.values()), 30, words)

    def check_least(self, rules, told, seed):
        if told is None:
            return
        self.assertEqual(told, sorted(set(told)), seed)
        self.assertTrue(rules.is_table(told), seed)
        self.assertTrue(check_table(rules.writer, rules.reader, told[::-1]), seed)
        for triple in told:
            others = [one for one in told if one != triple]
            self.assertFalse(rules.is_table(others), seed)
            self.assertFalse(check_table(rules.writer, rules.reader, others), seed)
            if triple[2] == "alike":
                self.assertFalse(rules.is_table(others + [triple[:2] + ("let",)]), seed)


class TableTest(unittest.TestCase):
    def alone(self, kind, other):
        """The tables of editions whose roots are these kinds, both ways."""
        return [table(edition(root=kind), edition(root=other)), table(edition(root=other), edition(root=kind))]

    def test_example(self):
        sort = Choice([Way("0", "van", Nothing()), Way("10", "bus", Number(1, 3))])
        first = Edition({"car": Row([Part("speed", Number(0, 99, 7)), Part("sort", Call("sort"))]), "sort": sort}, "car", 4)
        roomy = taken(first, AddRoom("car", 1, Room("11", "extra", None)))
        later = taken(roomy, TellBody("car", "extra", Number(0, 7, 3)))
        told = [("car", "car", "alike"), ("sort", "sort", "alike")]
        self.assertEqual(table(later, roomy), told)
        self.assertEqual(table(reader=roomy, writer=first), told)
        self.assertIsNone(table(later, first))
        self.assertTrue(check_table(writer=later, reader=roomy, thing=told[::-1]))
        self.assertTrue(all(type(triple) is tuple for triple in table(later, roomy)))

    def test_roots_of_each_class(self):
        simple = [Number(0, 3), Bits(2), Items(BIT), Items(BIT, 1)]
        named = [Choice([Way("00", "a", Nothing()), Way("01", "b", Nothing()), Way("1", "c", Bits(1))]), row(Number(0, 3))]
        for at, kind in enumerate(simple + named):
            for other_at, other in enumerate(simple + named):
                expected = [[]] * 2 if kind in simple else [[("root", "root", "alike")]] * 2
                self.assertEqual(self.alone(kind, other), expected if at == other_at else [None, None])

    def test_numbers(self):
        self.assertEqual(self.alone(Number(0, 3), Number(0, 3, 2)), [[], []])
        self.assertEqual(self.alone(Number(0, 2, 2), Number(0, 3)), [[], None])
        self.assertEqual(self.alone(Number(0, 2, 2), Number(0, 3, 2)), [[], None])
        self.assertEqual(self.alone(Number(0, 2, 2), Number(0, 2, 3)), [None, None])
        self.assertEqual(self.alone(Number(0, 2, 2), Number(1, 3, 2)), [None, None])
        self.assertEqual(self.alone(Number(0, 2, 2), Number(-1, 2, 2)), [None, None])
        self.assertEqual(self.alone(Number(0, 2), Number(0, 2, 2)), [None, None])
        self.assertEqual(self.alone(Number(0, 2), Number(0, 3)), [None, None])
        # The first integers of a tight number have one length: 3 of 0 to 4 have two bits, and 1 of 0 to 2 has one.
        self.assertEqual(self.alone(Number(0, 2, 2), Number(0, 4)), [[], None])
        self.assertEqual(self.alone(Number(0, 3, 2), Number(0, 4)), [None, None])
        self.assertEqual(self.alone(Number(0, 1, 1), Number(0, 2)), [None, None])
        self.assertEqual(self.alone(Number(0, 2 ** 60 - 1, 60), Number(0, 2 ** 60 - 1)), [[], []])
        self.assertEqual(self.alone(Number(0, 2 ** 59, 60), Number(0, 2 ** 60 - 1)), [[], None])

    def test_all_small_numbers(self):
        numbers = [Number(low, high, width) for low in (0, 1) for high in range(low + 1, low + 9)
                   for width in (None, 1, 2, 3, 4) if width is None or 2 ** width > high - low]
        alike = 0
        for kind in numbers:
            for other in numbers:
                expected = Rules(edition(root=kind), edition(root=other)).alike(kind, other, set())
                self.assertEqual(table(edition(root=kind), edition(root=other)), [] if expected else None)
                alike += expected
        self.assertGreater(alike, len(numbers) + 30)

    def test_bits_and_items(self):
        self.assertEqual(self.alone(Bits(2), Bits(3)), [None, None])
        self.assertEqual(self.alone(Items(BIT), Items(BIT, 1)), [None, None])
        self.assertEqual(self.alone(Items(BIT, 2), Items(BIT, 1)), [None, None])
        self.assertEqual(self.alone(Items(THREE, 2), Items(Number(0, 3), 2)), [[], None])
        self.assertEqual(self.alone(Items(THREE), Items(Number(0, 3))), [[], None])

    def test_calls_of_calls(self):
        inside = Choice([Way("0", "n", Nothing()), Way("1", "b", BIT)])
        one = edition(root=Call("a"), a=Call("b"), b=Items(Call("c"), 2), c=Call("d"), d=inside)
        other = edition(root=Items(Call("e"), 2), e=inside)
        self.assertEqual(table(one, other), [("d", "e", "alike")])
        self.assertEqual(table(other, one), [("e", "d", "alike")])
        self.assertEqual(table(one, one), [("d", "d", "alike")])

    def test_let(self):
        """A body may go on where the reader's kind ends."""
        def told(kind, other, **kinds):
            writer = edition(4, root=Choice([Way("0", "n", Nothing()), Door("1", "d", kind)]), **kinds)
            reader = edition(4, root=Choice([Way("0", "n", Nothing()), Door("1", "d", other)]), **kinds)
            return table(writer, reader)

        roots = ("root", "root", "alike")
        ways = {"a": Choice([Way("0", "x", BIT), Way("1", "y", Bits(2))]), "b": Choice([Way("0", "x", Nothing()), Way("1", "y", Bits(2))]),
                "c": row(BIT, Call("a")), "d": row(BIT, Call("b")), "e": row(BIT)}
        for kind in (None, Nothing(), BIT, Call("a"), Call("c")):
            self.assertEqual(told(kind, None, **ways), [roots])
            self.assertEqual(told(kind, Nothing(), **ways), [roots])
        self.assertEqual(told(None, BIT, **ways), [roots])
        self.assertIsNone(told(Nothing(), BIT, **ways))
        self.assertIsNone(told(Bits(2), Bits(1), **ways))
        self.assertEqual(told(Call("a"), Call("b"), **ways), [("a", "b", "let"), roots])
        self.assertIsNone(told(Call("b"), Call("a"), **ways))
        self.assertEqual(told(Call("a"), Call("a"), **ways), [("a", "a", "let"), roots])
        self.assertEqual(told(Call("c"), Call("d"), **ways), [("a", "b", "let"), ("c", "d", "let"), roots])
        self.assertEqual(told(Call("c"), Call("e"), **ways), [("c", "e", "let"), roots])
        self.assertIsNone(told(Call("e"), Call("c"), **ways))
        self.assertEqual(told(Items(Call("a"), 1), Items(Call("b"), 1), **ways), [("a", "b", "let"), roots])
        self.assertIsNone(told(Items(Bits(2), 1), Items(Bits(1), 1), **ways))
        self.assertIsNone(told(Items(Call("a"), 2), Items(Call("b"), 2), **{**ways, "a": Choice([Way("0", "x", BIT)]),
                                                                            "b": Choice([Way("0", "x", Nothing())])}))
        self.assertEqual(told(Items(Call("e"), 2), Items(Call("e"), 2), **ways), [("e", "e", "alike"), roots])

    def test_let_ends_at_the_last_part(self):
        """Only the last part of the reader's row may be let; those ahead of it must be alike."""
        kinds = {"a": Choice([Way("0", "x", BIT)]), "b": Choice([Way("0", "x", Nothing())]), "one": row(Call("a"), BIT)}
        writer = edition(root=Choice([Way("0", "n", Nothing()), Door("1", "d", Call("one"))]), **kinds)
        both = edition(root=Choice([Way("0", "n", Nothing()), Door("1", "d", Call("one"))]), **{**kinds, "one": row(Call("b"), BIT)})
        last = edition(root=Choice([Way("0", "n", Nothing()), Door("1", "d", Call("one"))]), **{**kinds, "one": row(Call("b"))})
        self.assertIsNone(table(writer, both))
        self.assertEqual(table(writer, last), [("a", "b", "let"), ("one", "one", "let"), ("root", "root", "alike")])

    def test_alike_does_for_let(self):
        """The same names are needed alike at one place and let at another one."""
        kinds = {"a": Choice([Way("0", "x", BIT), Way("1", "y", Call("b"))]), "b": Choice([Way("0", "z", Nothing())])}
        one = edition(root=Row([Part("p", Call("door")), Part("q", Call("a"))]),
                      door=Choice([Way("0", "n", Nothing()), Door("1", "d", Call("a"))]), **kinds)
        self.assertEqual(table(one, one), [("a", "a", "alike"), ("b", "b", "alike"), ("door", "door", "alike"), ("root", "root", "alike")])
        told = [("a", "a", "alike"), ("b", "b", "alike"), ("door", "door", "alike"), ("root", "root", "alike")]
        self.assertTrue(check_table(one, one, told + [("a", "a", "let")]))
        self.assertTrue(check_table(one, one, told + [("a", "a", "let"), ("b", "b", "let"), ("root", "root", "let")]))
        self.assertFalse(check_table(one, one, [("a", "a", "let")] + told[1:]))
        let = edition(root=Row([Part("p", Call("door"))]), door=one.kinds["door"], **kinds)
        told = [("a", "a", "let"), ("b", "b", "let"), ("door", "door", "alike"), ("root", "root", "alike")]
        self.assertEqual(table(let, let), told)
        self.assertTrue(check_table(let, let, [("a", "a", "alike"), ("b", "b", "alike")] + told[2:]))
        self.assertTrue(check_table(let, let, [("a", "a", "let"), ("b", "b", "alike")] + told[2:]))
        self.assertFalse(check_table(let, let, [("a", "a", "alike"), ("b", "b", "let")] + told[2:]))
        self.assertFalse(check_table(let, let, told[:3] + [("root", "root", "let")]))

    def test_other_names_on_either_side(self):
        """What is alike under some names does for what is let under the same ones alone."""
        inside = Choice([Way("0", "x", BIT)])
        writer = edition(root=row(Call("one"), Call("door")), one=inside, door=Choice([Way("0", "n", Nothing()), Door("1", "d", Call("one"))]))
        reader = edition(root=row(Call("two"), Call("gate")), two=inside, gate=Choice([Way("0", "n", Nothing()), Door("1", "d", Call("two"))]))
        told = [("door", "gate", "alike"), ("one", "two", "alike"), ("root", "root", "alike")]
        self.assertEqual(table(writer, reader), told)
        self.assertTrue(check_table(writer, reader, told))
        self.assertTrue(check_table(writer, reader, told + [("one", "two", "let")]))
        twice = edition(root=reader.kinds["root"], two=inside, more=inside, gate=Choice([Way("0", "n", Nothing()), Door("1", "d", Call("more"))]))
        told = [("door", "gate", "alike"), ("one", "more", "let"), ("one", "two", "alike"), ("root", "root", "alike")]
        self.assertEqual(table(writer, twice), told)
        self.assertFalse(check_table(writer, twice, told[:1] + told[2:]))
        told = [("gate", "door", "alike"), ("more", "one", "let"), ("root", "root", "alike"), ("two", "one", "alike")]
        self.assertEqual(table(twice, writer), told)
        self.assertFalse(check_table(twice, writer, told[:1] + told[2:]))

    def test_many_nested_kinds(self):
        """Each of twenty kinds calls the next one eight times."""
        names = "abcdefghijklmnopqrst"
        kinds = {name: row(*[Call(later)] * 8) for name, later in zip(names, names[1:])}
        one = Edition({**kinds, "t": THREE}, "a", 1)
        other = Edition({**kinds, "t": Number(0, 3)}, "a", 1)
        told = [(name, name, "alike") for name in names[:-1]]
        self.assertEqual([table(one, one), table(one, other), table(other, one)], [told, told, None])
        self.assertTrue(check_table(one, other, told))
        self.assertFalse(check_table(other, one, told))

    def test_doors(self):
        def choice(*ways):
            return edition(root=Choice([Way("0", "n", Nothing())] + list(ways)))

        roots = [("root", "root", "alike")]
        known, unknown = choice(Door("10", "d", BIT)), choice(Door("10", "d", None))
        self.assertEqual([table(known, unknown), table(unknown, known), table(unknown, choice()), table(known, choice())],
                         [roots, roots, roots, None])
        self.assertIsNone(table(known, choice(Door("11", "d", BIT))))
        self.assertIsNone(table(known, choice(Door("10", "e", BIT))))
        self.assertIsNone(table(known, choice(Way("10", "d", BIT))))
        self.assertIsNone(table(choice(Way("10", "d", BIT)), known))
        self.assertIsNone(table(choice(Way("10", "d", BIT)), unknown))
        self.assertEqual(table(choice(Door("10", "d", Nothing())), known), None)
        self.assertEqual(table(known, choice(Door("10", "d", Nothing()))), roots)
        self.assertEqual(table(choice(), known), roots)

    def test_rooms(self):
        def parts(*rooms):
            return edition(root=Row(list(rooms) + [Part("p", THREE)]))

        roots = [("root", "root", "alike")]
        known, unknown = parts(Room("11", "r", BIT)), parts(Room("11", "r", None))
        self.assertEqual([table(known, unknown), table(unknown, known), table(unknown, parts()), table(known, parts())],
                         [roots, roots, roots, None])
        self.assertIsNone(table(known, parts(Room("110", "r", None))))
        self.assertIsNone(table(known, parts(Room("11", "s", None))))
        self.assertEqual(table(parts(), known), roots)
        first, second = Room("110", "r", BIT), Room("1110", "s", BIT)
        self.assertEqual(table(parts(first, second), parts(first, second)), roots)
        self.assertIsNone(table(parts(first, second), parts(second, first)))
        self.assertEqual(table(parts(first), parts(second, first)), roots)
        self.assertIsNone(table(parts(first), parts(Room("110", "s", BIT), Room("1111", "r", BIT))))

    def test_parts(self):
        self.assertIsNone(table(edition(root=row(BIT, BIT)), edition(root=row(BIT))))
        self.assertIsNone(table(edition(root=row(BIT)), edition(root=row(BIT, BIT))))
        self.assertIsNone(table(edition(root=row(BIT)), edition(root=Row([Part("x", BIT)]))))
        swapped = Row([Part("q", BIT), Part("p", BIT)])
        self.assertIsNone(table(edition(root=row(BIT, BIT)), edition(root=swapped)))

    def test_rooms_behind_the_end_of_the_reader(self):
        def door(inner, **kinds):
            return edition(5, root=Choice([Way("0", "n", Nothing()), Door("1", "d", Call("in"))]), **{"in": inner}, **kinds)

        told = [("in", "in", "let"), ("root", "root", "alike")]
        long = door(Row([Part("p", THREE), Room("11", "r", BIT), Part("q", THREE)]))
        self.assertEqual(table(long, door(Row([Part("p", THREE)]))), told)
        self.assertIsNone(table(long, door(Row([Part("p", THREE), Part("q", THREE)]))))
        ahead = door(Row([Room("11", "r", BIT), Part("p", THREE), Part("q", THREE)]))
        self.assertIsNone(table(ahead, door(Row([Part("p", THREE)]))))
        self.assertEqual(table(ahead, door(Row([Room("11", "r", None), Part("p", THREE)]))), told)

    def test_counts(self):
        def both(kind, other, **kinds):
            return table(Edition({"root": kind, **kinds}, "root", 2), Edition({"root": other, **kinds}, "root", 3))

        roots = [("root", "root", "alike")]
        way, door, unknown = Way("0", "n", Nothing()), Door("1", "d", BIT), Door("1", "d", None)
        self.assertEqual(both(Choice([way]), Choice([way, door])), roots)
        self.assertEqual(both(Choice([way, unknown]), Choice([way, unknown])), roots)
        self.assertIsNone(both(Choice([way, door]), Choice([way, door])))
        self.assertIsNone(both(Choice([way, door]), Choice([way, unknown])))
        room, part = Room("11", "r", BIT), Part("p", THREE)
        self.assertEqual(both(Row([part]), Row([room, part])), roots)
        self.assertEqual(both(Row([Room("11", "r", None), part]), Row([room, part])), roots)
        self.assertIsNone(both(Row([room, part]), Row([room, part])))
        self.assertEqual(both(Row([part]), Row([part]), more=Row([room, part])), roots)


class CheckTest(unittest.TestCase):
    def setUp(self):
        kinds = {"a": Choice([Way("0", "x", BIT), Door("1", "y", Call("b"))]), "b": row(BIT, BIT), "c": Call("a"), "d": THREE}
        self.one = edition(root=row(Call("c"), Call("b")), **kinds)
        self.table = [("a", "a", "alike"), ("b", "b", "alike"), ("root", "root", "alike")]

    def check(self, thing):
        return check_table(self.one, self.one, thing)

    def test_orders_and_further_triples(self):
        self.assertEqual(table(self.one, self.one), self.table)
        self.assertIs(self.check(self.table), True)
        self.assertTrue(self.check(self.table[::-1]))
        self.assertTrue(self.check(self.table + [("b", "b", "let")]))
        self.assertFalse(self.check(self.table + [("a", "a", "alike")]))
        self.assertFalse(self.check(self.table + self.table))
        self.assertFalse(self.check(self.table + [("root", "b", "alike")]))
        self.assertFalse(self.check(self.table + [("b", "root", "let")]))
        for triple in self.table:
            self.assertIs(self.check([one for one in self.table if one != triple]), False)

    def test_names(self):
        for name in ("c", "d", "e", "", "A", "ab", "ROOT"):
            for triple in ((name, name, "let"), (name, "a", "let"), ("a", name, "let"), (name, "b", "alike"), ("b", name, "alike")):
                self.assertIs(self.check(self.table + [triple]), False)
        self.assertIs(self.check(self.table + [("a", "b", "let")]), False)
        self.assertIs(self.check(self.table + [("b", "a", "let")]), False)

    def test_other_things(self):
        self.assertIs(self.check(tuple(self.table)), False)
        self.assertIs(self.check([list(triple) for triple in self.table]), False)
        self.assertIs(self.check(self.table[:2] + [list(self.table[2])]), False)
        for word in ("Alike", "lets", "", "alik", None, True, 0):
            self.assertIs(self.check(self.table + [("b", "b", word)]), False)
        self.assertIs(self.check(self.table + [("b", "b")]), False)
        self.assertIs(self.check(self.table + [("b", "b", "let", "let")]), False)
        for thing in strange_things() + interface_objects():
            self.assertIs(self.check(thing), False)
            self.assertIs(self.check([thing]), False)
            self.assertIs(self.check(self.table + [thing]), False)
            for triple in ((thing, "b", "let"), ("b", thing, "let"), ("b", "b", thing)):
                if thing != "a":
                    self.assertIs(self.check(self.table + [triple]), thing in ("b", "let"))

    def test_no_triples(self):
        for kind in (BIT, Bits(3), Items(BIT), Items(BIT, 2), Call("a")):
            one = edition(root=kind, a=THREE)
            self.assertIs(check_table(one, one, []), True)
            self.assertIs(check_table(one, edition(root=Bits(4)), []), False)
            self.assertIs(check_table(one, one, [("root", "root", "alike")]), False)
        for kind in (row(BIT), Choice([Way("0", "a", BIT)])):
            self.assertIs(check_table(edition(root=kind), edition(root=kind), []), False)

    def test_further_triples_of_simple_roots(self):
        one = edition(root=BIT, a=row(BIT, THREE), b=row(BIT, Number(0, 3)))
        self.assertEqual(table(one, one), [])
        self.assertTrue(check_table(one, one, [("a", "b", "let"), ("a", "a", "alike"), ("b", "b", "let"), ("a", "b", "alike")]))
        self.assertFalse(check_table(one, one, [("b", "a", "let")]))

    def test_arguments_stay_as_they_are(self):
        told = list(self.table)
        self.check(told)
        self.assertEqual(told, self.table)
        first = table(self.one, self.one)
        first.clear()
        self.assertEqual(table(self.one, self.one), self.table)


if __name__ == "__main__":
    unittest.main()
