"""The whole program at once: what its parts tell of one edition agrees, and messages go from one edition to another."""

import random
import unittest
from fractions import Fraction

from roomleft.damage import turned, unseen
from roomleft.desk import Desk
from roomleft.errors import BadNumber, NoRoom, RoomError, TooMany
from roomleft.free import free_words, is_free, is_least_free, least_free
from roomleft.judging import alike_reading, judge, sort_of
from roomleft.kinds import Call
from roomleft.numbering import message_at, number_of
from roomleft.passing import set_at, through
from roomleft.readers import Reader, events
from roomleft.reading import is_own, read, read_first
from roomleft.shelves import Shelf
from roomleft.sizes import greatest_size, how_many, least_size
from roomleft.steps import steps_to, taken
from roomleft.streams import brings, into_step, never_together, read_all, same_standing, standings
from roomleft.tables import check_table, table
from roomleft.texts import edition_text, read_edition
from roomleft.values import is_value
from roomleft.valuetexts import read_value, value_text
from roomleft.weights import is_complete, own_weight, tossed, weight
from roomleft.writing import written
from tests.changes import changed_pairs
from tests.lists import random_editions, some_editions
from tests.pairs import grown, random_pairs, told
from tests.places import places, thing_at, with_thing

CAR = """edition car 4
car = row speed[number 0 99 7] sort[call sort]
sort = choice 0:van[nothing] 10:bus[number 1 3]"""


def first_messages(one, many):
    found = []
    for number in range(many):
        try:
            found.append(message_at(one, number))
        except BadNumber:
            break
    return found


class OneEditionTest(unittest.TestCase):
    def test_all_that_is_told_of_a_kind_agrees(self):
        for label, one in some_editions(range(0, 1200, 6)):
            one = read_edition(edition_text(one))
            for name in one.kinds:
                with self.subTest(label=label, kind=name):
                    self.check_weights(one, name)
                    self.check_messages(one, name)

    def check_weights(self, one, name):
        whole = Fraction(*weight(one, name))
        own = Fraction(*own_weight(one, name))
        chance, mean = [Fraction(*fraction) for fraction in tossed(one, name)]
        self.assertEqual(chance, 1 - whole)
        self.assertGreaterEqual(mean, least_size(one, name) * whole)
        self.assertTrue(0 < own <= whole <= 1)
        self.assertIs(is_complete(one, name), whole == 1)
        self.assertIs(least_free(one, name) is None, whole == 1)
        try:
            words = free_words(one, 12, name)
        except TooMany:
            return
        self.assertLessEqual(whole + sum(Fraction(1, 2 ** len(word)) for word in words), 1)
        self.assertEqual(words[:1], [] if least_free(one, name) is None or len(least_free(one, name)) > 12 else [least_free(one, name)])
        for word in words:
            self.assertTrue(is_free(one, word, name) and is_least_free(one, word, name))
        sizes = [how_many(one, length, name) for length in range(201)]
        part = sum(Fraction(many, 2 ** length) for length, many in enumerate(sizes))
        greatest = greatest_size(one, name)
        self.assertEqual(part == own, greatest is not None and greatest <= 200)
        self.assertLessEqual(part, own)

    def check_messages(self, one, name):
        messages = first_messages_of(one, name, 30)
        self.assertEqual(len(messages[0]), least_size(one, name))
        for number, bits in enumerate(messages):
            value = read(one, bits, name)
            self.assertEqual(number_of(one, bits, name), number)
            self.assertTrue(is_own(one, bits, name) and is_value(one, value, name))
            self.assertEqual(written(one, value, name), bits)
            self.assertEqual(written(one, read_value(one, value_text(value), name), name), bits)
            self.assertEqual(read_first(one, bits + "01", name), (value, len(bits)))
            self.assertFalse(is_free(one, bits, name))
            reader = Reader(one, name)
            heard = [event for bit in bits for event in reader.push(bit)]
            self.assertTrue(reader.is_whole())
            self.assertEqual((heard, reader.may(), reader.lack()), (events(one, bits, name), "", 0))
        self.assertEqual(sorted(messages, key=lambda bits: (len(bits), bits)), messages)
        for length in range(len(messages[-1])):
            self.assertEqual(how_many(one, length, name), sum(len(bits) == length for bits in messages))

    def test_streams_and_damage(self):
        for label, one in some_editions(range(0, 900, 9)):
            messages = first_messages(one, 8)
            bits = "".join(messages)
            self.assertEqual(read_all(one, bits), [read(one, message) for message in messages])
            self.assertTrue(same_standing(one, bits, ""))
            if standings(one) <= 100:
                row = into_step(one)
                self.assertEqual(row is None, never_together(one) is not None, label)
                self.assertTrue(row is None or brings(one, row))
                seen = unseen(one)
                if seen is not None:
                    self.assertTrue(is_own(one, seen[0]))
                    read(one, turned(*seen))


def first_messages_of(one, name, many):
    found = []
    for number in range(many):
        try:
            found.append(message_at(one, number, name))
        except BadNumber:
            break
    return found


class TwoEditionsTest(unittest.TestCase):
    def test_judging_tables_and_sorts_agree(self):
        for seed, writer, reader in random_pairs(range(0, 1500, 30)) + changed_pairs(range(0, 600, 12)):
            try:
                verdict = judge(writer, reader)
            except TooMany:
                continue
            least = {"refused": verdict.refused, "short": verdict.short, "in step": verdict.in_step, "stepped": verdict.stepped,
                     "other": verdict.other}
            found = table(writer, reader)
            self.assertEqual(found is not None, (verdict.refused, verdict.short, verdict.other) == (None, None, None), seed)
            self.assertTrue(found is None or check_table(writer, reader, found))
            for sort, bits in least.items():
                if bits is not None:
                    self.assertEqual(sort_of(writer, reader, bits), sort)
            for bits in first_messages(writer, 15):
                sort = sort_of(writer, reader, bits)
                self.assertLessEqual((len(least[sort]), least[sort]), (len(bits), bits))
            if alike_reading(writer, reader) is None:
                self.assertEqual((verdict.refused, verdict.short), (None, None))

    def test_from_texts_through_a_desk(self):
        luck = random.Random(9)
        for seed, one in random_editions(range(0, 600, 6)):
            other = told(luck, grown(luck, one))
            desk = Desk()
            desk.tell("edition one " + edition_text(one).replace("\n", " | "))
            desk.tell("edition other " + edition_text(other).replace("\n", " | "))
            self.assertTrue(desk.edition("other") == other)
            shelf = Shelf(one)
            shelf.put(other)
            self.assertEqual(desk.tell("reads one other"), "yes" if shelf.reads(0, 1) else "no")
            self.assertEqual(shelf.unread() == [], desk.tried(["reads one other", "reads other one"]) == ["yes", "yes"])
            for bits in first_messages(other, 6):
                text = desk.tell("read other " + bits)
                self.assertEqual(desk.tell("write other " + text), bits)
                self.assertEqual(desk.tell("sort other one " + bits), sort_of(other, one, bits))
                self.assertEqual(desk.tell("own other " + bits), "yes")
            steps = steps_to(one, other)
            if steps is not None:
                later = one
                for step in steps:
                    later = taken(later, step)
                self.assertTrue(later == desk.edition("other"))

    def test_back_from_an_elder_program(self):
        """A message is written by one edition, and set, written back and read again on its way."""
        luck = random.Random(11)
        ways = 0
        for seed, one in random_editions(range(0, 900, 9)):
            elder = grown(luck, one)
            later = told(luck, elder)
            if table(later, elder) is None or table(elder, later) is None:
                continue
            for bits in first_messages(later, 10):
                value = read(elder, bits)
                self.assertEqual(through([(later, []), (elder, [])], bits), bits)
                path, _, _ = luck.choice(places(elder, Call(elder.root), value))
                thing = thing_at(elder, Call(elder.root), value, path)
                new = with_thing(elder, Call(elder.root), value, path, thing)
                if not is_value(elder, new):
                    continue
                try:
                    made = set_at(elder, bits, path, thing)
                except NoRoom:
                    continue
                self.assertEqual(read(elder, made), new)
                self.assertEqual(written(later, read(later, made)), made)
                ways += 1
        self.assertGreater(ways, 200)


class DeskTest(unittest.TestCase):
    def test_a_day_at_the_desk(self):
        desk = Desk()
        lines = [
            ("edition first " + CAR.replace("\n", " | "), "ok"), ("free first car", "111"), ("step first roomy room car 1 11?extra", "ok"),
            ("step roomy roomy way sort 110?new", None), ("step first open way sort 110?new", "ok"), ("free open sort", "111"),
            ("step open wide room car 1 111?extra", "ok"), ("step wide later tell car extra number 0 7 3", "ok"),
            ("step later later tell sort new items 1 [bits 2]", "ok"), ("step later later widen car speed 127", "ok"), ("names", "first later open roomy wide"),
            ("write later {extra: (5, ''), sort: new(['01'], ''), speed: 127}", "1111111" + "111" + "0011101" + "110" + "0011" + "101"),
            ("sort later wide " + "1111111" + "111" + "0011101" + "110" + "0011" + "101", "refused"), ("reads later wide", "no"),
            ("undo", "ok"), ("reads later wide", "yes"),
            ("write later {extra: (5, ''), sort: new(['01'], ''), speed: 99}", "1100011" + "111" + "0011101" + "110" + "0011" + "101"),
            ("read wide " + "1100011" + "111" + "0011101" + "110" + "0011" + "101", "{extra: (-, '101'), sort: new(-, '101'), speed: 99}"),
            ("judge later wide", "refused none; short none; in step 00000000; stepped 0000000110" + "0001" + "0" + "; other none"),
            ("judge later first", "refused 0000000110" + "0001" + "0" + "; short none; in step 00000000; stepped none; other none"),
            ("weight later sort", None),
        ]
        for line, answer in lines:
            if answer is None:
                try:
                    desk.tell(line)
                except RoomError:
                    pass
            else:
                self.assertEqual(desk.tell(line), answer, line)
        self.assertEqual(desk.tell("weight later sort"), "{}/{}".format(*weight(desk.edition("later"), "sort")))
        self.assertEqual(desk.tell("free later car"), least_free(desk.edition("later"), "car"))


if __name__ == "__main__":
    unittest.main()
