"""Editions that are made at random, always the same ones, against the lists of all their messages."""

import random
import unittest

from roomleft.editions import Edition
from roomleft.errors import LongBody, RoomTaken
from roomleft.kinds import Bits, Call, Choice, Door, Items, Nothing, Number, Room, Row
from roomleft.reading import is_own, read
from roomleft.readers import Reader, events
from roomleft.writing import written
from tests.maker import Maker
from tests.oracle import Beginnings, Oracle, codes, outcome, rows


def lengths(kinds, count, kind):
    """The lengths of all own messages, far more than any body can have standing for no greatest one."""
    most = 2 ** count - 1
    if isinstance(kind, Nothing):
        return {0}
    if isinstance(kind, Number):
        return {len(bits) for _, bits, _ in codes(kind)}
    if isinstance(kind, Bits):
        return {kind.many}
    if isinstance(kind, Call):
        return lengths(kinds, count, kinds[kind.name])
    if isinstance(kind, Items):
        item = lengths(kinds, count, kind.item)
        ahead = 1 if kind.width is None else 0
        told = last = {1 if kind.width is None else kind.width}
        for _ in range(10 if kind.width is None else 2 ** kind.width - 1):
            last = {one + ahead + other for one in last for other in item if one + other < 40}
            told = told | last
        return told | {10 ** 6} if kind.width is None else told
    if isinstance(kind, Choice):
        told = set()
        for way in kind.ways:
            if not isinstance(way, Door):
                told |= {len(way.word) + size for size in lengths(kinds, count, way.kind)}
            elif way.kind is not None:
                told |= {len(way.word) + count + size for size in lengths(kinds, count, way.kind) if size <= most}
        return told
    told = {0}
    for part in kind.parts:
        if not isinstance(part, Room):
            sizes = lengths(kinds, count, part.kind)
        elif part.kind is None:
            sizes = {0}
        else:
            inner = lengths(kinds, count, part.kind)
            sizes = {0} | {len(part.word) + count + size for size in inner if size <= most}
        told = {one + other for one in told for other in sizes}
    return told


def expected_long_body(kinds, count):
    for name in sorted(kinds):
        kind = kinds[name]
        inner = kind.ways if isinstance(kind, Choice) else kind.parts if isinstance(kind, Row) else ()
        for one in inner:
            if isinstance(one, (Door, Room)) and one.kind is not None:
                if max(lengths(kinds, count, one.kind)) > 2 ** count - 1:
                    return name, one.name
    return None


def called(kinds, kind):
    if isinstance(kind, Call):
        return {kind.name} | called(kinds, kinds[kind.name])
    inner = [kind.item] if isinstance(kind, Items) else []
    inner += [way.kind for way in kind.ways] if isinstance(kind, Choice) else []
    inner += [part.kind for part in kind.parts] if isinstance(kind, Row) else []
    return {name for one in inner for name in called(kinds, one)}


def taken_room(oracle, row):
    """The last room whose word is not free for what follows, None, or "?" if there are too many messages to tell."""
    for at in range(len(row.parts) - 1, -1, -1):
        room = row.parts[at]
        if isinstance(room, Room):
            follow = Row(row.parts[at + 1:])
            limit = len(room.word) + oracle.greatest_lack(follow)
            if limit > 15:
                return "?"
            for bits, _, _, _ in oracle.row(follow.parts, limit):
                if bits.startswith(room.word) or room.word.startswith(bits):
                    return room.name
    return None


def expected_taken_room(kinds, count):
    oracle = Oracle(kinds, count)
    faults = {}
    for name in sorted(kinds, key=lambda name: len(called(kinds, kinds[name]))):
        if isinstance(kinds[name], Row) and not any(inner in faults for inner in called(kinds, kinds[name])):
            fault = taken_room(oracle, kinds[name])
            if fault == "?":
                return "?"
            if fault is not None:
                faults[name] = fault
    return (min(faults), faults[min(faults)]) if faults else None


class RandomEditionsTest(unittest.TestCase):
    def test_editions_and_their_messages(self):
        tried = 0
        for seed in range(1500):
            kinds, root, count = Maker(seed).kinds()
            with self.subTest(seed=seed):
                long_one = expected_long_body(kinds, count)
                if long_one is not None:
                    with self.assertRaises(LongBody) as caught:
                        Edition(kinds, root, count)
                    self.assertEqual((caught.exception.name, caught.exception.inner), long_one)
                    continue
                taken = expected_taken_room(kinds, count)
                if taken == "?":
                    continue
                if taken is not None:
                    with self.assertRaises(RoomTaken) as caught:
                        Edition(kinds, root, count)
                    self.assertEqual((caught.exception.name, caught.exception.inner), taken)
                    continue
                tried += self.messages(Edition(kinds, root, count), random.Random(seed))
        self.assertGreater(tried, 200)

    def messages(self, edition, luck):
        """Compares reading with the list of all messages, if there are few enough; tells whether."""
        oracle = Oracle(edition.kinds, edition.count)
        lack = oracle.greatest_lack(edition.kinds[edition.root])
        size = min(7, 14 - lack)
        if size < 2:
            return False
        messages = oracle.of(edition.root, size + lack)
        told = Beginnings(messages)
        self.assertEqual(len(told.whole), len(messages))
        for bits, value, events_told, own in luck.sample(messages, min(20, len(messages))):
            self.assertEqual(read(edition, bits), value)
            self.assertEqual(written(edition, value), bits)
            self.assertEqual(events(edition, bits), list(events_told))
            self.assertIs(is_own(edition, bits), own)
        for row in rows(size)[::3]:
            self.assertEqual(outcome(lambda: read(edition, row)), told.outcome(row), row)
            self.go(edition, row, told)
        return True

    def go(self, edition, row, told):
        reader = Reader(edition)
        known = set()
        for bit in row:
            bits = reader.bits()
            self.assertEqual(reader.may(), "".join(one for one in "01" if bits + one in told.ends))
            self.assertEqual(reader.lack(), told.ends[bits] - len(bits))
            if bit not in reader.may():
                break
            got = reader.push(bit)
            self.assertEqual(got, sorted(told.sure[bits + bit] - known))
            known |= set(got)


if __name__ == "__main__":
    unittest.main()
