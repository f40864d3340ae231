import unittest

from roomleft.editions import Edition
from roomleft.errors import BadBits, BadNumber, Left, NoBits, NoOwn, TooFew, TooMany
from roomleft.judging import Verdict, alike_reading, judge, sort_of
from roomleft.kinds import Bits, Call, Choice, Door, Items, Nothing, Number, Part, Room, Row, Way
from roomleft.numbering import message_at
from roomleft.reading import read
from roomleft.steps import AddRoom, TellBody, taken
from tests.lists import BIT, THREE, ErrorsCase, chain, edition, is_read, row, some_editions
from tests.oracle import Oracle, rows
from tests.pairs import random_pairs
from tests.strange import strange_things

SORTS = ("refused", "short", "in step", "stepped", "other")


def least_of(verdict):
    """A dict of the sorts to the least messages."""
    return dict(zip(SORTS, (verdict.refused, verdict.short, verdict.in_step, verdict.stepped, verdict.other)))


class Skips(Oracle):
    """Tells a further event at each bit of an unknown body and of a rest."""

    def body(self, kind, limit):
        made = []
        for bits, value, events, own in Oracle.body(self, kind, limit):
            first = 0 if kind is None else len(bits) - len(value[1])
            made.append((bits, value, events + tuple((at, ((), "skip", 0)) for at in range(first, len(bits))), own))
        return made


class Sorts:
    """The sorts of messages with few bits, from lists of all messages, as the document tells them."""

    def __init__(self, writer, reader, limit):
        self.writer = Skips(writer.kinds, writer.count).of(writer.root, limit)
        oracle = Skips(reader.kinds, reader.count)
        lack = oracle.greatest_lack(reader.kinds[reader.root])
        messages = oracle.of(reader.root, limit + lack)
        self.reader = {bits: events for bits, _, events, _ in messages}
        self.begun = {bits[:size] for bits in self.reader for size in range(len(bits) + 1)}

    def own(self):
        return [(bits, events) for bits, _, events, own in self.writer if own]

    def sort(self, bits, events):
        for size in range(len(bits) + 1):
            if bits[:size] not in self.begun:
                return "refused"
            if bits[:size] in self.reader and size < len(bits):
                return "short"
        if bits not in self.reader:
            return "short"
        skipped = {at for at, event in self.reader[bits] if event[1] == "skip"}
        told = {event for event in events if event[1][1] != "skip"}
        heard = {event for event in self.reader[bits] if event[1][1] != "skip"}
        if told == heard:
            return "in step"
        return "stepped" if {event for event in told if event[0] not in skipped} == heard else "other"


class VerdictTest(unittest.TestCase):
    NAMES = "refused short in_step stepped other".split()

    def test_fields(self):
        things = [object() for _ in range(5)]
        self.assertEqual(list(vars(Verdict(*things)).items()), list(zip(self.NAMES, things)))
        self.assertEqual(vars(Verdict(**dict(zip(self.NAMES, things)))), vars(Verdict(*things)))
        for thing in strange_things():
            Verdict(thing, thing, thing, thing, thing)

    def test_equality(self):
        one = Verdict("0", None, "1", None, "00")
        self.assertTrue(one == Verdict("0", None, "1", None, "00"))
        for at in range(5):
            things = ["0", None, "1", None, "00"]
            things[at] = "11"
            self.assertFalse(one == Verdict(*things))
            self.assertTrue(one != Verdict(*things))
        self.assertFalse(Verdict(1, 1, 1, 1, 1) == Verdict(1, 1, 1, 1, True))
        self.assertFalse(one == "0")


class SortTest(ErrorsCase):
    def sorts(self, writer, reader, expected):
        for bits, sort in expected.items():
            self.assertEqual(sort_of(writer, reader, bits), sort, bits)

    def test_random_pairs_by_lists(self):
        found = dict.fromkeys(SORTS, 0)
        for seed, writer, reader in random_pairs(range(0, 1500, 4)):
            if Oracle(reader.kinds, reader.count).greatest_lack(reader.kinds[reader.root]) > 7:
                continue
            sorts = Sorts(writer, reader, 9)
            for bits, events in sorts.own()[:150]:
                expected = sorts.sort(bits, events)
                self.assertEqual(sort_of(writer, reader, bits), expected, (seed, bits))
                found[expected] += 1
        self.assertGreater(min(found.values()), 20, found)

    def test_each_sort(self):
        writer = edition(root=Choice([Way("00", "a", THREE), Way("01", "b", Bits(2)), Way("10", "c", BIT), Door("11", "d", BIT)]))
        reader = edition(root=Choice([Way("00", "a", THREE), Way("01", "b", BIT), Way("100", "c", BIT), Door("11", "d", None)]))
        self.sorts(writer, reader, {
            "0000": "in step", "0110": "short", "101": "refused", "100": "short", "110010": "stepped"})
        other = edition(root=Choice([Way("00", "x", THREE), Way("01", "b", Number(0, 3)), Way("10", "c", Number(1, 2)),
                                     Door("11", "d", Nothing())]))
        self.sorts(writer, other, {"0001": "other", "0110": "other", "100": "other", "110011": "stepped"})
        self.sorts(other, writer, {"0001": "other", "0110": "other", "11000": "refused"})

    def test_rests(self):
        long = edition(root=row(Call("a"), THREE), a=Choice([Way("0", "n", Nothing()), Door("1", "d", Items(BIT, 2))]))
        short = edition(root=row(Call("a"), THREE), a=Choice([Way("0", "n", Nothing()), Door("1", "d", Items(BIT, 1))]))
        # The reader takes the first bit of the count for all of it: "00" ends behind it, "10" has one item.
        self.sorts(long, short, {"1" + "010" + "00" + "01": "other", "000": "in step"})
        number = edition(root=row(Call("a"), THREE), a=Choice([Way("0", "n", Nothing()), Door("1", "d", Call("b"))]),
                         b=row(Bits(2), Items(BIT, 1)))
        elder = edition(root=row(Call("a"), THREE), a=Choice([Way("0", "n", Nothing()), Door("1", "d", Call("b"))]), b=row(Bits(2)))
        self.sorts(number, elder, {"1" + "011" + "000" + "01": "stepped", "1" + "100" + "0011" + "10": "stepped"})
        self.sorts(elder, number, {"1" + "010" + "00" + "00": "refused", "000": "in step"})

    def test_unlike_counts(self):
        kinds = {"root": row(Call("a"), Items(BIT)), "a": Choice([Way("0", "n", Nothing()), Door("1", "d", BIT)])}
        two, three = Edition(kinds, "root", 2), Edition(kinds, "root", 3)
        unknown = Edition({**kinds, "a": Choice([Way("0", "n", Nothing()), Door("1", "d", None)])}, "root", 3)
        self.sorts(two, three, {
            "00": "in step", "0100": "in step", "101" + "0" + "0": "short", "101" + "0" + "100": "other", "101" + "1" + "0": "short",
            "101" + "1" + "110": "short", "101" + "1" + "11110": "short"})
        self.sorts(two, unknown, {"00": "in step", "101" + "0" + "100": "stepped", "101" + "0" + "110": "stepped",
                                  "101" + "1" + "0": "short", "101" + "1" + "10100": "short"})
        self.sorts(three, two, {"1" + "001" + "0" + "0": "refused"})

    def test_in_step_again_at_a_later_item(self):
        """What the reader steps over ends in a later item of the writer; from there on all events are the same."""
        kinds = {"root": Items(Call("a")), "a": Row([Room("11", "r", BIT), Part("p", THREE)])}
        writer = Edition(kinds, "root", 1)
        reader = Edition({**kinds, "a": Row([Room("11", "r", None), Part("p", THREE)])}, "root", 2)
        # The writer has a body of one bit, a part, and an item; the reader has a body of three bits.
        bits = "1" + "11" + "1" + "1" + "00" + "1" + "00" + "0"
        self.sorts(writer, reader, {bits: "stepped"})
        self.assertEqual(least_of(judge(writer, reader)), {
            "refused": "11110001100", "short": "11110000", "in step": "0", "stepped": bits, "other": "111100010111010011111001000"})
        for least in least_of(judge(writer, reader)).items():
            self.assertEqual(sort_of(writer, reader, least[1]), least[0])

    def test_in_step_again_on_the_same_path_alone(self):
        """The later item must have the same way as the one in which the reader steps over: only "y" is long enough for it."""
        kinds = {"root": Items(Call("c")), "c": Choice([Way("0", "x", Call("a")), Way("10", "y", Call("a"))]),
                 "a": Row([Room("11", "r", BIT), Part("p", THREE)])}
        writer = Edition(kinds, "root", 1)
        reader = Edition({**kinds, "a": Row([Room("11", "r", None), Part("p", THREE)])}, "root", 3)
        ahead = "11" + "1" + "0" + "00" + "1" + "10" + "00" + "0"
        self.sorts(writer, reader, {"1" + "10" + ahead: "stepped", "1" + "0" + ahead: "other"})
        verdict = judge(writer, reader)
        self.assertEqual(verdict.stepped, "1" + "10" + ahead)
        self.assertEqual(sort_of(writer, reader, verdict.other), "other")

    def test_called_kinds_and_rooms(self):
        writer = edition(root=Items(Call("in")), **{"in": Row([Room("11", "r", BIT), Part("p", Number(0, 1, 2))])})
        reader = edition(root=Items(Call("in")), **{"in": Row([Room("11", "r", None), Part("p", Number(0, 1, 2))])})
        self.sorts(writer, reader, {"0": "in step", "1000": "in step", "1" + "11" + "001" + "0" + "00" + "0": "stepped"})
        without = edition(root=Items(Call("in")), **{"in": Row([Part("p", Number(0, 1, 2))])})
        self.sorts(writer, without, {"1000": "in step", "1" + "11" + "001" + "0" + "00" + "0": "refused"})
        wide = edition(root=Items(Call("in")), **{"in": Row([Part("p", Number(0, 3, 2))])})
        self.sorts(writer, wide, {"1000": "in step", "1" + "11" + "001" + "0" + "00" + "0": "short"})

    def test_words_longer_than_the_part_behind_them(self):
        kinds = {"root": Row([Room("1111", "r", BIT), Part("p", BIT), Part("q", BIT), Part("o", THREE)])}
        writer = Edition(kinds, "root", 3)
        reader = edition(root=Row([Room("1111", "r", None), Part("p", BIT), Part("q", BIT), Part("o", THREE)]))
        self.sorts(writer, reader, {"1110": "in step", "0000": "in step", "1111" + "001" + "1" + "1101": "stepped"})
        other = edition(root=Row([Room("1111", "s", None), Part("p", BIT), Part("q", BIT), Part("o", THREE)]))
        self.sorts(writer, other, {"1110": "in step", "1111" + "001" + "1" + "1101": "other"})

    def test_long_messages(self):
        one = edition(root=Items(THREE))
        wide = edition(root=Items(Number(0, 3, 2)))
        bits = "110" * 1333 + "0"
        self.sorts(one, wide, {bits: "in step"})
        self.sorts(wide, one, {bits: "in step", "110" * 1332 + "1110": "refused"})

    def test_errors(self):
        writer = edition(root=Choice([Way("00", "a", THREE), Door("01", "b", None), Door("10", "c", BIT)]))
        reader = edition(root=Bits(1))
        for thing in strange_things():
            if not isinstance(thing, str) or thing.strip("01"):
                self.raises(NoBits(), sort_of, writer, reader, thing)
        self.raises(BadBits(1), sort_of, writer, reader, "11")
        self.raises(TooFew(1), sort_of, writer, reader, "000")
        self.raises(Left(4), sort_of, writer, reader, "00000")
        self.raises(NoOwn(), sort_of, writer, reader, "01000")
        self.raises(NoOwn(), sort_of, writer, reader, "1001000")
        self.assertEqual(sort_of(bits="0000", reader=writer, writer=writer), "in step")


class JudgeTest(ErrorsCase):
    def compare(self, label, writer, reader, most):
        """With the sorts of the first own messages; tells which sorts were found."""
        expected = {}
        last = None
        for number in range(most):
            try:
                last = message_at(writer, number)
            except BadNumber:
                last = None
                break
            expected.setdefault(sort_of(writer, reader, last), last)
        verdict = least_of(judge(writer, reader))
        for sort, bits in verdict.items():
            if sort in expected:
                self.assertEqual(bits, expected[sort], (label, sort))
            elif bits is not None:
                self.assertIsNotNone(last, (label, sort))
                self.assertGreater((len(bits), bits), (len(last), last), (label, sort))
                self.assertEqual(sort_of(writer, reader, bits), sort, label)
        return [sort for sort in SORTS if verdict[sort] is not None]

    def test_random_pairs(self):
        found = dict.fromkeys(SORTS, 0)
        for seed, writer, reader in random_pairs(range(0, 1500, 5)):
            for sort in self.compare(seed, writer, reader, 60):
                found[sort] += 1
        self.assertGreater(min(found.values()), 20, found)

    def test_small_editions_with_one_another(self):
        made = [one for _, one in some_editions([])]
        for number, writer in enumerate(made):
            for reader in made[number % 3::3]:
                self.compare(number, writer, reader, 20)

    def test_an_edition_against_itself(self):
        for label, one in some_editions(range(300)):
            verdict = least_of(judge(one, one))
            self.assertEqual(verdict, {**dict.fromkeys(SORTS), "in step": message_at(one, 0)}, label)

    def test_facts_for_steps_over(self):
        """Where nothing is refused, short or other, the reader's value is the writer's but for what it does not know."""
        tried = 0
        for seed, writer, reader in random_pairs(range(0, 900, 5)):
            verdict = judge(writer, reader)
            if (verdict.refused, verdict.short, verdict.other) == (None, None, None):
                for number in range(30):
                    try:
                        bits = message_at(writer, number)
                    except BadNumber:
                        break
                    self.assertTrue(is_like(read(writer, bits), read(reader, bits)), (seed, bits))
                    tried += 1
        self.assertGreater(tried, 1000)

    def test_example(self):
        sort = Choice([Way("0", "van", Nothing()), Way("10", "bus", Number(1, 3))])
        first = Edition({"car": row(Number(0, 99, 7), Call("sort")), "sort": sort}, "car", 4)
        roomy = taken(first, AddRoom("car", 1, Room("11", "extra", None)))
        later = taken(roomy, TellBody("car", "extra", Number(0, 7, 3)))
        self.assertEqual(judge(later, roomy), Verdict(None, None, "00000000", "00000001100110000", None))
        self.assertEqual(judge(reader=first, writer=later).refused, "00000001100110000")

    def test_long_messages(self):
        big = Number(0, 2 ** 60 - 2, 60)
        writer = edition(root=row(big, BIT))
        reader = edition(root=row(Number(0, 2 ** 60 - 4, 60), BIT))
        self.assertEqual(judge(writer, reader), Verdict("1" * 58 + "01" + "0", None, "0" * 61, None, None))
        parts = [Bits(16)] * 4 + [Call("b")]
        deep = edition(root=Items(Call("a")), a=row(*parts), b=Choice([Way("0", "x", Nothing()), Way("1", "y", BIT)]))
        named = edition(root=Items(Call("a")), a=row(*parts), b=Choice([Way("0", "x", Nothing()), Way("1", "z", BIT)]))
        self.assertEqual(judge(deep, named), Verdict(None, None, "0", None, "1" + "0" * 64 + "10" + "0"))

    def test_no_greatest_length(self):
        counted = edition(root=Items(THREE, 2))
        run = edition(root=Items(THREE))
        self.assertEqual(judge(run, counted), Verdict("1011000", "0", None, None, None))
        self.assertEqual(judge(counted, run), Verdict("11100000", "00", None, None, None))
        self.compare("run", run, counted, 200)
        self.compare("counted", counted, run, 200)
        empty = edition(root=Choice([Way("0", "a", Nothing())]))
        self.assertEqual(judge(run, empty), Verdict("1000", None, None, None, "0"))
        self.assertEqual(judge(empty, run), Verdict(None, None, None, None, "0"))

    def test_many_paths(self):
        """Names that lie around both do not make places many."""
        words = rows(4)[:12]
        kinds = {name: Choice([Way(word, "abcdefghijkl"[at], Items(Call(later))) for at, word in enumerate(words)])
                 for name, later in zip("abcdefgh", "bcdefghi")}
        unknown = Edition({**kinds, "i": Row([Room("11", "r", None), Part("p", THREE)])}, "a", 3)
        known = taken(unknown, TellBody("i", "r", THREE))
        verdict = judge(known, unknown)
        self.assertEqual([verdict.refused, verdict.short, verdict.other], [None, None, None])
        self.assertEqual(verdict.in_step, "00000")
        self.assertEqual(verdict.stepped, "00001" * 8 + "11" + "010" + "00" + "00" + "0" * 8)
        self.assertEqual(judge(unknown, known), Verdict(None, None, "00000", None, None))

    def test_nested_choices_in_a_body(self):
        words = rows(4)[:12]
        kinds = {name: Choice([Way(word, "abcdefghijkl"[at], Call(later)) for at, word in enumerate(words)])
                 for name, later in zip("abcdef", "bcdefg")}
        kinds["g"] = Bits(2)
        unknown = Edition({**kinds, "root": Items(Call("door")), "door": Choice([
            Way("0", "n", Nothing()), Door("10", "d", None)])}, "root", 5)
        known = taken(unknown, TellBody("door", "d", Call("a")))
        verdict = judge(known, unknown)
        self.assertEqual([verdict.refused, verdict.short, verdict.other], [None, None, None])
        self.assertEqual(verdict.stepped, "1" + "10" + "11010" + "0" * 26 + "0")


def is_like(told, heard):
    """Whether a reader's value is the writer's, but that values are missing in unknown bodies, and that rests stand there."""
    if isinstance(heard, dict):
        return isinstance(told, dict) and set(told) == set(heard) and all(is_like(told[name], heard[name]) for name in told)
    if isinstance(heard, list):
        return isinstance(told, list) and len(told) == len(heard) and all(is_like(*pair) for pair in zip(told, heard))
    if isinstance(heard, tuple) and isinstance(told, tuple) and len(told) == len(heard):
        # A body: what stands in the rest, or in an unknown body, is not compared.
        if heard[-1] != told[-1] and isinstance(heard[-1], str) and told[-1] == "":
            return told[:-2] == heard[:-2]
        return all(is_like(*pair) for pair in zip(told, heard))
    return told == heard


class BoundsTest(ErrorsCase):
    def test_one_edition(self):
        one = edition(root=BIT)
        just, more = chain(20000), chain(20001)
        self.assertEqual(judge(just, one), Verdict(None, "0" * 20000, None, None, None))
        self.assertEqual(judge(one, just), Verdict(None, "0", None, None, None))
        self.assertEqual(alike_reading(just, one), "0")
        for call in (judge, alike_reading):
            self.raises(TooMany(20000), call, more, one)
            self.raises(TooMany(20000), call, one, more)
            self.raises(TooMany(20000), call, more, more)

    def test_product(self):
        hundred, two_hundred, one_more = chain(100), chain(200), chain(201)
        self.assertEqual(judge(two_hundred, hundred), Verdict(None, "0" * 200, None, None, None))
        self.assertEqual(alike_reading(hundred, two_hundred), "0" * 100)
        for call in (judge, alike_reading):
            self.raises(TooMany(20000), call, one_more, hundred)
            self.raises(TooMany(20000), call, hundred, one_more)
        self.assertEqual(judge(chain(141), chain(141)), Verdict(None, None, "0" * 141, None, None))
        self.raises(TooMany(20000), judge, chain(142), chain(142))

    def test_a_big_product(self):
        """The standings of one edition come with all of the other one ahead of the first end at one bit."""
        one = edition(root=Items(Call("a")), a=row(*[Bits(16)] * 7))
        other = edition(root=Items(Call("a")), a=row(*[Bits(16)] * 6, Bits(15)))
        verdict = judge(one, other)
        self.assertEqual(verdict, Verdict(None, "1" + "0" * 113, "0", None, verdict.other))
        self.assertEqual(len(verdict.other), 113 * 112 + 1)
        self.assertEqual(sort_of(one, other, verdict.other), "other")

    def test_equal_standings_are_counted_once(self):
        """Two ways of 19600 bits, made of unlike rows."""
        kinds = {"root": Choice([Way("0", "x", Call("a")), Way("1", "y", Call("e"))])}
        for name, inner, many in (
            ("a", Call("b"), 5), ("b", Call("c"), 5), ("c", Call("d"), 7), ("d", Bits(16), 7),
            ("e", Call("f"), 8), ("f", Call("g"), 7), ("g", Call("h"), 5), ("h", Bits(14), 5),
        ):
            kinds[name] = row(*[inner] * many)
        one = Edition(kinds, "root", 1)
        self.assertEqual(judge(one, edition(root=BIT)), Verdict(None, "0" * 19601, None, None, None))
        self.assertIsNone(alike_reading(edition(root=Bits(1)), edition(root=BIT)))
        self.raises(TooMany(20000), judge, one, edition(root=Bits(2)))

    def test_astronomic_editions(self):
        kinds = {letter: row(*[Call(chr(ord(letter) + 1))] * 8) for letter in "abcdefghijklmnopqrs"}
        kinds["t"] = THREE
        one = Edition(kinds, "a", 5)
        for call in (judge, alike_reading):
            self.raises(TooMany(20000), call, one, one)
            self.raises(TooMany(20000), call, one, edition(root=BIT))
            self.raises(TooMany(20000), call, edition(root=BIT), one)


class AlikeReadingTest(unittest.TestCase):
    def least(self, one, other, most):
        for size in range(most + 1):
            for bits in rows(size):
                if is_read(one, bits) != is_read(other, bits):
                    return bits
        return None

    def test_all_rows_of_a_few_bits(self):
        unlike = 0
        for seed, one, other in random_pairs(range(0, 1500, 30)):
            expected = self.least(one, other, 9)
            found = alike_reading(one, other)
            self.assertEqual(alike_reading(other, one), found)
            if expected is not None:
                self.assertEqual(found, expected, seed)
                unlike += 1
            elif found is not None:
                self.assertGreater(len(found), 9)
                self.assertNotEqual(is_read(one, found), is_read(other, found))
        self.assertGreater(unlike, 30)

    def test_other_kinds_that_read_the_same(self):
        same = [
            edition(root=Bits(3)), edition(root=Number(0, 7)), edition(root=Number(3, 10, 3)), edition(root=row(BIT, Bits(2))),
            edition(root=Choice([Way("0", "a", Bits(2)), Way("1", "b", Number(0, 3))]), count=1), edition(root=Call("a"), a=Bits(3))]
        for one in same:
            for other in same:
                self.assertIsNone(alike_reading(one, other))
        rooms = [
            edition(root=Row([Room("11", "r", None), Part("p", THREE)])), edition(root=Row([Room("11", "s", None), Part("q", THREE)])),
            edition(root=Choice([Way("00", "a", Nothing()), Way("01", "b", Nothing()), Way("10", "c", Nothing()), Way("11", "d", Call("e"))]),
                    e=row(Call("f"), THREE), f=Choice([Way("000", "a", Nothing()), Way("001", "b", Bits(1)), Way("010", "c", Bits(2)),
                                                       Way("011", "d", Bits(3)), Way("100", "e", Bits(4)), Way("101", "f", Bits(5)),
                                                       Way("110", "g", Bits(6)), Way("111", "h", Bits(7))]))]
        for one in rooms:
            for other in rooms:
                self.assertIsNone(alike_reading(one, other))
        self.assertEqual(alike_reading(rooms[0], edition(root=THREE)), "1100000")

    def test_either_way(self):
        one, other = edition(root=Items(THREE)), edition(root=Items(Number(0, 3, 2)))
        self.assertEqual(alike_reading(one, other), "1110")
        self.assertEqual(alike_reading(other, one), "1110")
        self.assertEqual(alike_reading(other=one, one=other), "1110")
        self.assertEqual(alike_reading(edition(root=Bits(1)), edition(root=Bits(2))), "0")

    def test_far_away(self):
        big = Number(0, 2 ** 60 - 2, 60)
        one = edition(root=row(Bits(16), big))
        other = edition(root=row(Bits(16), Number(0, 2 ** 60 - 3, 60)))
        self.assertEqual(alike_reading(one, other), "0" * 16 + "1" * 59 + "0")


if __name__ == "__main__":
    unittest.main()
