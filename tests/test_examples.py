"""The examples that stand in the document's interface."""

import unittest

from roomleft.editions import Edition
from roomleft.free import free_words, room_words, way_words
from roomleft.judging import judge
from roomleft.kinds import Call, Choice, Nothing, Number, Part, Room, Row, Way
from roomleft.reading import read
from roomleft.readers import events
from roomleft.steps import AddRoom, TellBody, taken
from roomleft.tables import table
from roomleft.weights import weight
from roomleft.writing import written


class ExamplesTest(unittest.TestCase):
    def setUp(self):
        sort = Choice([Way("0", "van", Nothing()), Way("10", "bus", Number(1, 3))])
        car = Row([Part("speed", Number(0, 99, 7)), Part("sort", Call("sort"))])
        self.first = Edition({"car": car, "sort": sort}, "car", 4)

    def test_reading_and_writing(self):
        self.assertEqual(self.first.root, "car")
        self.assertEqual(written(self.first, {"speed": 5, "sort": ("bus", 2)}), "00001011010")
        self.assertEqual(read(self.first, "00001010"), {"speed": 5, "sort": ("van", None)})
        self.assertEqual(events(self.first, "00001011010"), [
            (6, (("speed",), "number", 0)), (8, (("sort",), "way", "bus")), (10, (("sort", "bus"), "number", 0))])

    def test_weights_and_free_words(self):
        self.assertEqual([weight(self.first), weight(self.first, "sort")], [(75, 128), (3, 4)])
        self.assertEqual([free_words(self.first, 4), room_words(self.first, "car", 1, 8), way_words(self.first, "sort", 8)],
                         [["111", "1101"], ["11"], ["11"]])

    def test_steps_and_judging(self):
        roomy = taken(self.first, AddRoom("car", 1, Room("11", "extra", None)))
        self.assertEqual(read(roomy, "0000101" + "11" + "0011" + "101" + "0"),
                         {"speed": 5, "extra": (None, "101"), "sort": ("van", None)})
        later = taken(roomy, TellBody("car", "extra", Number(0, 7, 3)))
        verdict = judge(later, roomy)
        self.assertEqual([verdict.refused, verdict.short, verdict.in_step, verdict.stepped, verdict.other],
                         [None, None, "00000000", "00000001100110000", None])
        self.assertEqual(table(later, roomy), [("car", "car", "alike"), ("sort", "sort", "alike")])
        self.assertEqual(judge(later, self.first).refused, "00000001100110000")


if __name__ == "__main__":
    unittest.main()
