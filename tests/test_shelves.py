import random
import unittest
from itertools import combinations, permutations

from roomleft.editions import Edition
from roomleft.errors import BadNumber, NoStep, NoUndo, TooMany
from roomleft.kinds import Bits, Call, Choice, Door, Nothing, Number, Part, Room, Row, Way
from roomleft.shelves import Shelf
from roomleft.steps import AddKind, AddRoom, AddWay, TellBody, Widen, taken
from roomleft.tables import table
from tests.lists import BIT, THREE, ErrorsCase, edition, random_editions
from tests.pairs import grown, told
from tests.strange import strange_things


def car():
    return Edition({"car": Row([Part("speed", Number(0, 99, 7)), Part("sort", Call("sort"))]),
                    "sort": Choice([Way("0", "van", Nothing()), Way("10", "bus", Number(1, 3))])}, "car", 4)


STEPS = [
    AddRoom("car", 1, Room("111", "extra", None)), TellBody("car", "extra", Number(0, 6, 3)), AddKind("kind", Bits(1)),
    Widen("car", "extra", 7), AddWay("sort", Way("1100", "tram", Nothing())), AddWay("sort", Door("1101", "else", None)),
]


def no_numbers(many):
    return [thing for thing in strange_things() + [-1, many, many + 1, -many]
            if isinstance(thing, bool) or not isinstance(thing, int) or not 0 <= thing < many]


class Kept:
    """What a shelf with these editions must tell, by a search over all rows of numbers."""

    def __init__(self, editions):
        self.numbers = list(range(len(editions)))
        self.has = {(one, other): table(editions[one], editions[other]) is not None for one in self.numbers for other in self.numbers}

    def unread(self):
        return [pair for pair in sorted(self.has) if not self.has[pair] and pair[0] != pair[1]]

    def are_friends(self, one, other):
        return self.has[one, other] and self.has[other, one]

    def together(self):
        found = [list(one) for many in self.numbers for one in combinations(self.numbers, many + 1)
                 if all(self.are_friends(*pair) for pair in combinations(one, 2))]
        return min(found, key=lambda one: (-len(one), one))

    def road(self, first, last):
        if first == last:
            return [first]
        others = [number for number in self.numbers if number not in (first, last)]
        found = [[first, *between, last] for many in range(len(others) + 1) for between in permutations(others, many)]
        found = [one for one in found if all(self.are_friends(*pair) for pair in zip(one, one[1:]))]
        return min(found, key=lambda one: (len(one), one), default=None)


class ShelfTest(ErrorsCase):
    def test_against_a_list(self):
        kept = [car()]
        shelf = Shelf(edition=kept[0])
        for step in STEPS:
            self.assertIsNone(shelf.take(step))
            kept.append(taken(kept[-1], step))
            self.check(shelf, kept)
        self.assertIsNone(shelf.put(edition=kept[0]))
        kept.append(kept[0])
        self.check(shelf, kept)
        while len(kept) > 1:
            self.assertIsNone(shelf.back())
            kept.pop()
            self.check(shelf, kept)
        self.raises(NoUndo(), shelf.back)
        self.check(shelf, kept)
        shelf.take(step=STEPS[0])
        self.check(shelf, kept + [taken(kept[0], STEPS[0])])

    def check(self, shelf, kept):
        self.assertEqual(len(shelf), len(kept))
        self.assertTrue(shelf.editions() == kept)
        self.assertIs(type(shelf.editions()), list)
        for number, one in enumerate(kept):
            self.assertTrue(shelf[number] == one)

    def test_steps_that_are_refused(self):
        shelf = Shelf(car())
        for step, reason in [(None, "step"), (AddKind("car", BIT), "name"), (AddRoom("car", 0, Room("1", "r", None)), "room"),
                             (AddWay("sort", Way("0", "tram", BIT)), "word"), (TellBody("car", "extra", BIT), "inner")]:
            self.raises(NoStep(reason), shelf.take, step)
        self.check(shelf, [car()])
        for _ in range(11):
            shelf.put(car())
        # The step is looked at ahead of the number of the editions.
        self.raises(NoStep("step"), shelf.take, None)
        self.raises(NoStep("name"), shelf.take, AddKind("car", BIT))
        self.raises(TooMany(12), shelf.take, STEPS[0])
        self.check(shelf, [car()] * 12)

    def test_bound(self):
        shelf = Shelf(car())
        for number in range(11):
            self.assertEqual(len(shelf), number + 1)
            if number % 2:
                shelf.put(edition(root=Bits(number)))
            else:
                shelf.take(AddKind("abcdefghijkl"[number], BIT))
        self.assertEqual(len(shelf), 12)
        self.raises(TooMany(12), shelf.put, car())
        self.raises(TooMany(12), shelf.take, AddKind("z", BIT))
        self.assertEqual(len(shelf), 12)
        shelf.back()
        shelf.put(car())
        self.raises(TooMany(12), shelf.put, car())

    def test_numbers(self):
        shelf = Shelf(car())
        shelf.take(STEPS[0])
        for thing in no_numbers(2):
            self.raises(BadNumber("number"), lambda: shelf[thing])
            for call in (shelf.reads, shelf.road):
                words = ("writer", "reader") if call == shelf.reads else ("first", "last")
                self.raises(BadNumber(words[0]), call, thing, 0)
                self.raises(BadNumber(words[1]), call, 1, thing)
                self.raises(BadNumber(words[0]), call, thing, thing)
                self.raises(BadNumber(words[1]), call, **{words[0]: 0, words[1]: thing})
        self.raises(BadNumber("number"), lambda: shelf[:])
        self.raises(BadNumber("number"), lambda: shelf[0, 1])
        self.assertEqual(shelf[1].root, "car")

    def test_lists_belong_to_the_caller(self):
        shelf = Shelf(car())
        shelf.take(STEPS[0])
        shelf.editions().clear()
        shelf.together().append(7)
        shelf.unread().append(7)
        shelf.road(0, 1).append(7)
        self.check(shelf, [car(), taken(car(), STEPS[0])])
        self.assertEqual((shelf.together(), shelf.unread(), shelf.road(0, 1)), ([0, 1], [], [0, 1]))

    def test_two_shelves(self):
        one, other = Shelf(car()), Shelf(car())
        one.take(STEPS[0])
        other.put(edition(root=BIT))
        other.put(edition(root=BIT))
        self.assertEqual((len(one), len(other)), (2, 3))
        one.back()
        self.assertEqual((len(one), len(other)), (1, 3))
        self.raises(NoUndo(), one.back)

    def test_it_is_not_iterated_over(self):
        with self.assertRaises(TypeError):
            list(Shelf(car()))


class ReadsTest(ErrorsCase):
    def check(self, shelf, label=None):
        kept = Kept(shelf.editions())
        for one in kept.numbers:
            for other in kept.numbers:
                self.assertIs(shelf.reads(one, other), kept.has[one, other], label)
                if len(kept.numbers) < 8:
                    self.assertEqual(shelf.road(one, other), kept.road(one, other), (label, one, other))
        self.assertEqual(shelf.unread(), kept.unread(), label)
        self.assertEqual(shelf.together(), kept.together(), label)

    def test_one_edition(self):
        shelf = Shelf(car())
        self.assertIs(shelf.reads(0, 0), True)
        self.assertEqual((shelf.unread(), shelf.together(), shelf.road(0, 0)), ([], [0], [0]))

    def test_steps(self):
        shelf = Shelf(car())
        self.check(shelf)
        for step in STEPS:
            shelf.take(step)
            self.check(shelf, step)
        self.assertIs(shelf.reads(writer=2, reader=0), False)
        self.assertIs(shelf.reads(writer=0, reader=2), True)
        self.assertTrue(all(type(pair) is tuple for pair in shelf.unread()))
        self.assertEqual(shelf.together(), [1, 2, 3])
        self.assertEqual(shelf.road(first=1, last=3), [1, 3])
        self.assertEqual(shelf.road(0, 3), [0, 1, 3])
        self.assertIsNone(shelf.road(0, 5))
        shelf.back()
        self.check(shelf)
        shelf.put(car())
        self.check(shelf)

    def test_drawn_editions(self):
        luck = random.Random(8)
        roads = 0
        for seed, one in random_editions(range(0, 900, 4)):
            shelf = Shelf(one)
            for _ in range(luck.randint(2, 5)):
                base = luck.choice(shelf.editions())
                shelf.put(luck.choice([grown, told])(luck, base))
            self.check(shelf, seed)
            roads += any(len(shelf.road(first, last) or []) > 2 for first in range(len(shelf)) for last in range(len(shelf)))
            shelf.back()
            self.check(shelf, seed)
        self.assertGreater(roads, 5)

    def test_the_least_of_several(self):
        shelf = Shelf(edition(root=Bits(1)))
        for many in (2, 3, 2, 3, 1, 4):
            shelf.put(edition(root=Bits(many)))
        self.assertEqual(shelf.together(), [0, 5])
        self.check(shelf)
        shelf.put(edition(root=Bits(3)))
        self.assertEqual(shelf.together(), [2, 4, 7])
        self.assertEqual(shelf.road(2, 7), [2, 7])
        self.assertIsNone(shelf.road(0, 1))
        self.assertEqual(shelf.road(6, 6), [6])

    def joined(self, *doors):
        """An edition with a choice in which just some doors are known, with unlike kinds for one another."""
        return edition(root=Choice([Way("0", "n", Nothing())] + [Door("1" + word, name, kind) for word, name, kind in doors]))

    def test_roads_of_several_lengths(self):
        """Both ways read each other: those that know unlike things of one door do not, those that do not know it do."""
        one, other = ("0", "d", BIT), ("0", "d", THREE)
        none = ("0", "d", None)
        shelf = Shelf(self.joined(one))
        for doors in ([other], [none], [none], [one], [other]):
            shelf.put(self.joined(*doors))
        self.assertEqual(shelf.road(0, 1), [0, 2, 1])
        self.assertEqual(shelf.road(1, 0), [1, 2, 0])
        self.assertEqual(shelf.road(5, 4), [5, 2, 4])
        self.assertEqual(shelf.road(0, 4), [0, 4])
        self.assertEqual(shelf.together(), [0, 2, 3, 4])
        self.check(shelf)

    def test_a_full_shelf(self):
        shelf = Shelf(car())
        for step in STEPS:
            shelf.take(step)
        for one in shelf.editions()[:5]:
            shelf.put(one)
        self.assertEqual(len(shelf), 12)
        kept = Kept(shelf.editions())
        self.assertEqual(shelf.together(), kept.together())
        self.assertEqual(shelf.unread(), kept.unread())
        same = Shelf(car())
        for _ in range(11):
            same.put(car())
        self.assertEqual(same.together(), list(range(12)))
        self.assertEqual(same.road(0, 11), [0, 11])


if __name__ == "__main__":
    unittest.main()
