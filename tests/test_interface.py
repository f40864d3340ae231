"""The names, parameters and methods of the document's interface, each in the file under which it stands there."""

import importlib
import inspect
import unittest

from roomleft.editions import Edition
from roomleft.kinds import Bits, Call, Choice, Door, Items, Nothing, Number, Part, Room, Row, Way
from roomleft.steps import AddKind, AddRoom, AddWay, TellBody, Widen

FUNCTIONS = {
    "values": ["is_value(edition, thing, kind=None)"],
    "writing": ["written(edition, value, kind=None)"],
    "reading": ["read(edition, bits, kind=None)", "read_first(edition, bits, kind=None)", "is_own(edition, bits, kind=None)"],
    "readers": ["events(edition, bits, kind=None)"],
    "sizes": ["how_many(edition, length, kind=None)", "least_size(edition, kind=None)", "greatest_size(edition, kind=None)"],
    "numbering": ["message_at(edition, number, kind=None)", "number_of(edition, bits, kind=None)"],
    "weights": ["weight(edition, kind=None)", "own_weight(edition, kind=None)", "is_complete(edition, kind=None)", "tossed(edition, kind=None)"],
    "free": ["is_free(edition, bits, kind=None)", "is_least_free(edition, bits, kind=None)", "least_free(edition, kind=None)",
             "free_words(edition, most, kind=None)", "room_words(edition, name, index, most)", "way_words(edition, name, most)"],
    "steps": ["taken(edition, step)", "steps_to(elder, later)"],
    "wishes": ["cheapest_words(edition, name, weights)", "fits(edition, name, words)"],
    "judging": ["judge(writer, reader)", "sort_of(writer, reader, bits)", "alike_reading(one, other)"],
    "tables": ["table(writer, reader)", "check_table(writer, reader, thing)"],
    "passing": ["set_at(edition, bits, path, value)", "through(programs, bits)"],
    "streams": ["read_all(edition, bits)", "same_standing(edition, one, other)", "standings(edition, kind=None)", "into_step(edition)",
                "brings(edition, bits)", "never_together(edition)", "are_never_together(edition, one, other)"],
    "damage": ["turned(bits, at)", "dropped(bits, at)", "put(bits, at, bit)", "unseen(edition)"],
    "texts": ["edition_text(edition)", "read_edition(text)"],
    "valuetexts": ["value_text(value)", "read_value(edition, text, kind=None)"],
}
CLASSES = {
    "kinds": ["Nothing()", "Number(low, high, width=None)", "Bits(many)", "Items(item, width=None)", "Call(name)", "Way(word, name, kind)",
              "Door(word, name, kind)", "Choice(ways)", "Part(name, kind)", "Room(word, name, kind)", "Row(parts)"],
    "editions": ["Edition(kinds, root, count)"],
    "readers": ["Reader(edition, kind=None)"],
    "steps": ["AddKind(name, kind)", "AddWay(name, way)", "AddRoom(name, index, room)", "TellBody(name, inner, kind)", "Widen(name, inner, high)"],
    "judging": ["Verdict(refused, short, in_step, stepped, other)"],
    "shelves": ["Shelf(edition)"],
    "desk": ["Desk()"],
}
METHODS = {
    "Reader": ["push(bit)", "bits()", "is_whole()", "may()", "lack()", "undo(many=1)", "copy()"],
    "Shelf": ["take(step)", "put(edition)", "editions()", "back()", "reads(writer, reader)", "unread()", "together()", "road(first, last)"],
    "Desk": ["tell(line)", "depth()", "edition(name)", "trying()", "tried(lines)"],
}
WITH_EQUALITY = ["Nothing", "Number", "Bits", "Items", "Call", "Way", "Door", "Choice", "Part", "Room", "Row", "Edition", "AddKind", "AddWay",
                 "AddRoom", "TellBody", "Widen", "Verdict"]


def split(text):
    name, parameters = text[:-1].split("(")
    return name, f"({parameters})"


def parameters_of(function, without_self=False):
    signature = inspect.signature(function)
    parameters = list(signature.parameters.values())
    return str(signature.replace(parameters=parameters[1:] if without_self else parameters))


class InterfaceTest(unittest.TestCase):
    def test_functions(self):
        for module, texts in FUNCTIONS.items():
            found = importlib.import_module("roomleft." + module)
            for name, parameters in map(split, texts):
                function = getattr(found, name)
                self.assertTrue(inspect.isfunction(function))
                self.assertEqual(function.__module__, "roomleft." + module)
                self.assertEqual(parameters_of(function), parameters, name)

    def test_classes(self):
        for module, texts in CLASSES.items():
            found = importlib.import_module("roomleft." + module)
            for name, parameters in map(split, texts):
                kind = getattr(found, name)
                self.assertTrue(inspect.isclass(kind))
                self.assertEqual(kind.__module__, "roomleft." + module)
                self.assertEqual(parameters_of(kind), parameters, name)
                self.assertEqual("__eq__" in vars(kind), name in WITH_EQUALITY, name)
                for method, its_parameters in map(split, METHODS.get(name, [])):
                    self.assertIn(method, vars(kind))
                    self.assertEqual(parameters_of(vars(kind)[method], True), its_parameters, (name, method))

    def test_fields(self):
        """Each field has the name of its parameter and is set at once."""
        things = [Nothing(), Number(0, 1), Bits(1), Items(Bits(1)), Call("a"), Way("0", "a", Bits(1)), Door("0", "a", None),
                  Choice([Way("0", "a", Bits(1))]), Part("a", Bits(1)), Room("0", "a", None), Row([Part("a", Bits(1))]),
                  Edition({"a": Bits(1)}, "a", 1), AddKind(1, 2), AddWay(1, 2), AddRoom(1, 2, 3), TellBody(1, 2, 3), Widen(1, 2, 3)]
        texts = dict(split(text) for texts in CLASSES.values() for text in texts)
        for thing in things:
            parameters = texts[type(thing).__name__][1:-1]
            for field in parameters.split(", ") if parameters else []:
                self.assertTrue(hasattr(thing, field.split("=")[0]), field)
        self.assertEqual((things[7].ways, type(things[7].ways)), ((things[5],), tuple))
        self.assertIs(type(things[10].parts), tuple)


if __name__ == "__main__":
    unittest.main()
