import random
import unittest

from roomleft.editions import Edition
from roomleft.errors import BadBits, NoBits, NoKind, TooFew, TooMany
from roomleft.kinds import Bits, Call, Choice, Door, Items, Nothing, Number, Part, Room, Row, Way
from roomleft.reading import read
from roomleft.streams import (
    are_never_together, brings, into_step, never_together, read_all, same_standing, standings,
)
from tests.lists import BIT, THREE, ErrorsCase, chain, edition, row, some_editions
from tests.minimal import StreamMachine, standings_of
from tests.oracle import Oracle, outcome, rows
from tests.strange import strange_things


def no_bits():
    return [thing for thing in strange_things() if not isinstance(thing, str) or thing.strip("01")]


def streams_of(label, one, bits):
    """What read_all must do with a row, by the outcomes of its messages."""
    values = []
    at = 0
    while at < len(bits):
        word, thing = outcome(lambda: read(one, bits[at:]))
        if word == "value":
            return "value", values + [thing]
        if word == "bad":
            return "bad", at + thing
        if word == "few":
            return word, thing
        values.append(read(one, bits[at:at + thing]))
        at += thing
    return "value", values


class ReadAllTest(ErrorsCase):
    def test_messages_behind_one_another(self):
        luck = random.Random(2)
        for label, one in some_editions(range(0, 400, 4)):
            messages = Oracle(one.kinds, one.count).of(one.root, 9)
            if not messages:
                continue
            for many in (0, 1, 2, 3, 7):
                drawn = [luck.choice(messages) for _ in range(many)]
                bits = "".join(message[0] for message in drawn)
                self.assertEqual(read_all(one, bits), [message[1] for message in drawn], label)

    def test_every_row_of_a_few_bits(self):
        for label, one in some_editions(range(0, 400, 10)):
            for bits in [bits for size in range(8) for bits in rows(size)]:
                self.assertEqual(outcome(lambda: read_all(one, bits)), streams_of(label, one, bits), (label, bits))

    def test_numbers_are_counted_over_all_bits(self):
        one = edition(root=row(THREE, Call("a")), a=Choice([Way("0", "n", Nothing()), Way("10", "b", BIT)]))
        self.assertEqual(read_all(one, ""), [])
        first, second = {"p": 0, "q": ("n", None)}, {"p": 2, "q": ("b", 1)}
        self.assertEqual(read_all(one, "000"), [first])
        self.assertEqual(read_all(edition=one, bits="000" + "10101" + "000"), [first, second, first])
        self.raises(BadBits(4), read_all, one, "000" + "11")
        self.raises(BadBits(9), read_all, one, "000" + "10101" + "11000")
        self.raises(BadBits(11), read_all, one, "000" + "10101" + "0011")
        self.raises(TooFew(2), read_all, one, "000" + "10101" + "0")
        self.raises(TooFew(1), read_all, one, "000" + "10101" + "00")
        self.raises(TooFew(2), read_all, one, "000" + "10101" + "001")
        self.assertEqual(read_all(one, "000" * 1300), [first] * 1300)

    def test_no_bits(self):
        one = edition(root=BIT)
        for thing in no_bits():
            self.raises(NoBits(), read_all, one, thing)

    def test_lists_belong_to_the_caller(self):
        one = edition(root=Items(BIT))
        first = read_all(one, "110" + "0")
        first[0].append(7)
        first.append(7)
        self.assertEqual(read_all(one, "110" + "0"), [[1], []])


class SameStandingTest(ErrorsCase):
    def test_against_all_rows_that_can_follow(self):
        """A row follows as another one does if the same bits are refused and messages end at the same bits."""
        for label, one in some_editions(range(0, 300, 6)):
            if standings_of(one, one.root) > 6:
                continue
            follow = [bits for size in range(1, 7) for bits in rows(size)]
            told = {}
            for bits in [bits for size in range(4) for bits in rows(size)]:
                if outcome(lambda: read_all(one, bits))[0] != "bad":
                    told[bits] = [self.ends(one, bits, more) for more in follow]
            for first in told:
                for second in told:
                    self.assertIs(same_standing(one, first, second), told[first] == told[second], (label, first, second))

    def ends(self, one, bits, more):
        """What happens at the last one of further bits: refused earlier, refused here, the end of a message, or none."""
        whole = streams_of("", one, bits + more)
        if whole[0] == "bad":
            return ("bad", whole[1] - len(bits))
        return whole[0] == "value"

    def test_by_standings_of_threads(self):
        same = 0
        for label, one in some_editions(range(0, 600, 2)):
            machine = StreamMachine(one)
            told = {bits: machine.behind(machine.start, bits) for size in range(6) for bits in rows(size)}
            begun = [bits for bits in told if told[bits] is not None]
            luck = random.Random(len(begun))
            for _ in range(60):
                first, second = luck.choice(begun), luck.choice(begun)
                self.assertIs(same_standing(one, first, second), told[first] == told[second], (label, first, second))
                same += told[first] == told[second] and first != second
        self.assertGreater(same, 500)

    def test_whole_messages(self):
        for label, one in some_editions(range(0, 200, 4)):
            for bits, _, _, _ in Oracle(one.kinds, one.count).of(one.root, 9)[:20]:
                self.assertIs(same_standing(one, bits, ""), True)
                self.assertIs(same_standing(one, "", bits + bits), True)
                self.assertIs(same_standing(one, bits[:-1], bits + bits[:-1]), True)
        one = edition(root=Items(BIT))
        self.assertTrue(same_standing(one, "", "10"))
        self.assertTrue(same_standing(edition=one, one="1", other="101"))
        self.assertFalse(same_standing(one, "", "1"))
        self.assertFalse(same_standing(edition(root=Bits(2)), "0", ""))

    def test_long_messages_that_are_made_in_unlike_ways(self):
        eight = {"a": row(*[Bits(8)] * 8), "b": row(*[Call("a")] * 8), "c": row(*[Call("b")] * 8)}
        big = [Call("c")] * 5

        def both(kind, other):
            return edition(1, root=Choice([Way("0", "x", Call("f")), Way("1", "y", Call("g"))]), f=kind, g=other, **eight)

        one = both(row(*big, Bits(1)), row(BIT, *big))
        for first, second, expected in [("0", "1", True), ("00", "11", True), ("0" * 5, "1" * 5, True), ("00", "1", False), ("", "0", False),
                                        ("0" + "01" * 1000, "1" + "11" * 1000, True), ("0" + "01" * 1000, "1" + "11" * 999, False),
                                        ("0" * 20482, "1" * 20482, True), ("0" * 20481, "1" * 20482, False), ("0" * 20480, "1" * 20480, True)]:
            self.assertIs(same_standing(one, first, second), expected, (len(first), len(second)))
        self.raises(TooMany(20000), standings, one)
        for kind, other in [(row(*big, BIT), row(Number(0, 1, 2), *big)), (row(*big, BIT), row(*big, Number(0, 2))),
                            (row(*big, THREE), row(Bits(2), *big)), (row(THREE, *big), row(*big, THREE))]:
            self.assertIs(same_standing(both(kind, other), "0", "1"), False)
            self.assertIs(same_standing(both(other, kind), "0", "1"), False)
        self.assertIs(same_standing(both(row(THREE, *big), row(*big, Bits(2))), "0" + "00", "1" + "11"), True)

    def test_very_long_messages(self):
        names = "abcdefghijklmnopqrst"
        kinds = {name: row(*[Call(later)] * 8) for name, later in zip(names, names[1:])}
        one = Edition({**kinds, "t": THREE}, "a", 1)
        self.assertIs(same_standing(one, "00", "01"), True)
        self.assertIs(same_standing(one, "0", "1"), False)
        self.assertIs(same_standing(one, "00", ""), False)
        self.assertIs(same_standing(one, "0001" * 1000, "1001" * 1000), True)

    def test_errors(self):
        one = edition(root=THREE)
        for thing in no_bits():
            self.raises(NoBits(), same_standing, one, thing, "0")
            self.raises(NoBits(), same_standing, one, "0", thing)
            self.raises(NoBits(), same_standing, one, thing, "11")
            self.raises(BadBits(1), same_standing, one, "11", thing)
        self.raises(BadBits(3), same_standing, one, "0011", "11")
        self.raises(BadBits(3), same_standing, one, "00", "1011")
        self.raises(BadBits(1), same_standing, one, "11", "0011")


class StandingsTest(ErrorsCase):
    def test_by_threads(self):
        for label, one in some_editions(range(0, 900, 2)):
            for name in one.kinds:
                expected = standings_of(one, name)
                if expected is not None:
                    self.assertEqual(standings(one, name), expected, (label, name))

    def test_against_beginnings(self):
        """Two beginnings lead to one standing if the same ends follow them: all of them are looked at."""
        tried = 0
        for label, one in some_editions(range(0, 400, 3)):
            for name, kind in one.kinds.items():
                oracle = Oracle(one.kinds, one.count)
                longest = oracle.greatest_lack(kind)
                if longest > 11 or self.has_run(one, name):
                    continue
                messages = [bits for bits, _, _, _ in oracle.of(name, longest)]
                begun = {bits[:size] for bits in messages for size in range(len(bits))}
                follow = {start: frozenset(bits[len(start):] for bits in messages if bits.startswith(start)) for start in begun}
                self.assertEqual(standings(one, name), len(set(follow.values())), (label, name))
                tried += 1
        self.assertGreater(tried, 100)

    def has_run(self, one, name):
        """Whether there is no greatest length of what is read."""
        todo = [one.kinds[name]]
        for kind in todo:
            if isinstance(kind, Items) and kind.width is None:
                return True
            if isinstance(kind, Call):
                todo.append(one.kinds[kind.name])
            todo.extend([kind.item] if isinstance(kind, Items) else [])
            todo.extend(inner.kind for inner in getattr(kind, "ways", ()) + getattr(kind, "parts", ()) if inner.kind is not None)
        return False

    def test_each_kind(self):
        for kind, many in [
            (BIT, 1), (Number(0, 2), 2), (Number(0, 3), 2), (THREE, 3), (Number(0, 2 ** 60 - 1), 60), (Bits(16), 16), (Items(BIT), 2),
            (Items(Bits(3)), 4), (Items(BIT, 1), 2), (Items(BIT, 2), 6), (Call("a"), 3), (row(BIT, THREE), 4),
            (Choice([Way("0", "x", Nothing())]), 1), (Choice([Way("0", "x", Nothing()), Way("1", "y", Call("a"))]), 4),
            (Choice([Way("0", "x", THREE), Way("1", "y", Call("a"))]), 4), (Choice([Way("1", "y", Nothing()), Door("0", "d", None)]), 1 + 7 + 7),
            (Row([Room("11", "r", None), Part("p", THREE)]), 3 + 7 + 7 + 2),
        ]:
            self.assertEqual(standings(edition(root=kind, a=THREE)), many, vars(kind))
            self.assertEqual(standings(edition=edition(root=BIT, a=THREE, b=kind), kind="b"), many)

    def test_no_kind(self):
        one = edition(root=BIT)
        for thing in strange_things() + ["ROOT", "roots"]:
            if thing is not None:
                self.raises(NoKind(), standings, one, thing)
        self.raises(NoKind(), standings, chain(20001), "z")

    def test_bound(self):
        self.assertEqual(standings(chain(20000)), 20000)
        self.raises(TooMany(20000), standings, chain(20001))
        both = edition(1, **{**chain(20001).kinds, "small": BIT})
        self.assertEqual(standings(both, "small"), 1)
        self.raises(TooMany(20000), standings, both)


class StepTest(ErrorsCase):
    def test_what_brings_into_step(self):
        luck = random.Random(4)
        never = 0
        for label, one in some_editions(range(0, 900, 3)):
            if standings(one) > 40:
                continue
            machine = StreamMachine(one)
            bits = into_step(one)
            pair = never_together(one)
            self.assertTrue((bits is None) != (pair is None), label)
            if pair is None:
                self.assertTrue(machine.brings(bits), label)
                self.assertIs(brings(one, bits), True)
            else:
                never += 1
                ends = [machine.behind(machine.start, one_row) for one_row in pair]
                self.assertNotIn(None, ends)
                self.assertIs(type(pair), tuple)
                self.assertFalse(machine.come_together(*ends), label)
                self.assertIs(are_never_together(one, *pair), True)
                self.assertIs(are_never_together(one, *pair[::-1]), True)
            for row_of_bits in [luck.choice(rows(luck.randint(0, 9))) for _ in range(30)] + ["", "0", "1"]:
                self.assertIs(brings(one, row_of_bits), machine.brings(row_of_bits), (label, row_of_bits))
        self.assertGreater(never, 10)

    def test_pairs(self):
        apart = 0
        for label, one in some_editions(range(0, 900, 9)):
            if standings(one) > 25:
                continue
            machine = StreamMachine(one)
            begun = [bits for size in range(5) for bits in rows(size)]
            for first in begun[::3]:
                for second in begun:
                    ends = machine.behind(machine.start, first), machine.behind(machine.start, second)
                    expected = None not in ends and ends[0] != ends[1] and not machine.come_together(*ends)
                    self.assertIs(are_never_together(one, first, second), expected, (label, first, second))
                    apart += expected
        self.assertGreater(apart, 100)

    def test_known_ones(self):
        self.assertEqual(into_step(edition(root=BIT)), "")
        self.assertIs(brings(edition(root=BIT), ""), True)
        self.assertIsNone(never_together(edition(root=BIT)))
        two = edition(root=Bits(2))
        self.assertIsNone(into_step(two))
        self.assertEqual(sorted(never_together(two)), ["", "0"])
        self.assertIs(brings(two, "0"), False)
        self.assertIs(are_never_together(two, "0", ""), True)
        self.assertIs(are_never_together(two, "0", "1"), False)
        self.assertIs(are_never_together(two, "0", "00"), True)
        self.assertIs(are_never_together(two, "00", ""), False)
        three = edition(root=THREE)
        self.assertIs(brings(edition=three, bits="1"), False)
        self.assertIs(brings(three, "11"), True)
        self.assertIs(brings(three, "111"), False)
        self.assertIs(brings(three, "110"), True)
        self.assertIs(are_never_together(edition=three, one="", other="1"), False)
        # Behind a bit 0 of the first message any bit can follow, behind a bit 1 just one: 1 parts them.
        self.assertIs(are_never_together(three, "0", "1"), False)

    def test_refused_behind_all(self):
        """Bits that are refused behind each standing bring nothing into step."""
        one = edition(root=Choice([Way("00", "a", Nothing()), Way("01", "b", Nothing())]))
        self.assertEqual(standings(one), 2)
        for bits in ("11", "0110", "0011"):
            self.assertIs(brings(one, bits + "11"), False)
        self.assertIs(brings(one, "1"), True)
        self.assertIs(brings(one, "11"), False)

    def test_anything(self):
        for one in (edition(root=Bits(2)), edition(root=THREE), edition(root=BIT)):
            for thing in no_bits():
                self.assertIs(brings(one, thing), False)
                self.assertIs(are_never_together(one, thing, ""), False)
                self.assertIs(are_never_together(one, "0", thing), False)
                self.assertIs(are_never_together(one, thing, thing), False)

    def test_equal_editions_have_equal_results(self):
        """Whatever was asked of the edition ahead, and in whichever order its kinds were handed in."""
        kinds = {"root": Row([Part("p", Call("a")), Room("11", "r", None), Part("q", THREE)]),
                 "a": Choice([Way("0", "x", THREE), Way("10", "y", Items(BIT))]), "b": Items(Call("a")), "c": Bits(2)}
        one = Edition(kinds, "root", 2)
        other = Edition({name: kinds[name] for name in sorted(kinds, reverse=True)}, "root", 2)
        for name in ("c", "b", "a"):
            standings(other, name)
        self.assertEqual(into_step(one), into_step(other))
        self.assertEqual(into_step(one), into_step(one))
        kinds = {"root": row(Bits(3), Call("a")), "a": Choice([Way("00", "x", Bits(2)), Way("01", "y", Bits(2)), Way("1", "z", Bits(3))])}
        one, other = Edition(kinds, "root", 2), Edition(dict(reversed(list(kinds.items()))), "root", 2)
        standings(other, "a")
        self.assertIsNotNone(never_together(one))
        self.assertEqual(never_together(one), never_together(other))

    def test_bound(self):
        for most in (1, 299, 300):
            one = chain(most)
            self.assertEqual(into_step(one), "" if most == 1 else None)
            self.assertEqual(never_together(one) is None, most == 1)
            self.assertIs(brings(one, "0"), most == 1)
            self.assertIs(are_never_together(one, "0", "00"), most > 1)
        for one in (chain(301), chain(20001)):
            for thing in ["", "0", None, 5, []]:
                self.raises(TooMany(300), brings, one, thing)
                self.raises(TooMany(300), are_never_together, one, thing, thing)
            self.raises(TooMany(300), into_step, one)
            self.raises(TooMany(300), never_together, one)

    def test_long_rows(self):
        """Standings that come together one after another only."""
        one = edition(1, root=row(Bits(16), Bits(16), Bits(16), Number(0, 2 ** 16 - 2, 16)))
        self.assertEqual(standings(one), 79)
        bits = into_step(one)
        self.assertTrue(brings(one, bits))
        self.assertTrue(StreamMachine(one).brings(bits))
        most = edition(1, root=Call("a"), a=row(*[Bits(16)] * 8), b=BIT)
        self.assertIsNone(into_step(most))
        big = edition(1, root=row(Call("a"), Call("a"), Bits(16), Bits(5), Number(0, 2 ** 12 - 2, 12)), a=row(*[Bits(16)] * 8))
        self.assertEqual(standings(big), 300)
        self.assertTrue(brings(big, into_step(big)))


if __name__ == "__main__":
    unittest.main()
