import inspect
import unittest

from roomleft import errors

FIELDS = {
    "BadKind": ("part",), "BadEdition": ("part",), "MissingKind": ("name",), "RingOfCalls": ("name",),
    "LongBody": ("name", "inner"), "RoomTaken": ("name", "inner"), "NoKind": (), "NoBits": (),
    "BadValue": ("path",), "BadBits": ("at",), "TooFew": ("due",), "Left": ("at",), "NoOwn": (),
    "BadNumber": ("part",), "TooMany": ("most",), "NoUndo": (), "NoStep": ("reason",), "BadWeights": (),
    "NoPlace": (), "NoRoom": ("path",), "Broken": ("at", "word"), "BadText": ("line",), "NoLine": (), "NoName": ("name",),
}
THINGS = [("a", 3), (0, None), (("x", 1), "y")]


class ErrorsTest(unittest.TestCase):
    def test_there_are_just_these(self):
        classes = {name for name, thing in vars(errors).items() if inspect.isclass(thing)}
        self.assertEqual(classes, set(FIELDS) | {"RoomError"})
        self.assertEqual(len(FIELDS), 24)

    def test_each_derives_directly_from_room_error(self):
        self.assertEqual(errors.RoomError.__bases__, (ValueError,))
        for name in FIELDS:
            self.assertEqual(getattr(errors, name).__bases__, (errors.RoomError,), name)
            self.assertEqual(getattr(errors, name).__module__, "roomleft.errors")

    def test_made_by_place_and_by_name(self):
        for name, fields in FIELDS.items():
            kind = getattr(errors, name)
            for things in THINGS:
                given = dict(zip(fields, things))
                for error in (kind(*given.values()), kind(**given)):
                    self.assertEqual({field: getattr(error, field) for field in fields}, given)
                    self.assertEqual(vars(error), given)

    def test_made_with_just_these(self):
        for name, fields in FIELDS.items():
            kind = getattr(errors, name)
            with self.assertRaises(TypeError):
                kind(*["a"] * (len(fields) + 1))
            if fields:
                with self.assertRaises(TypeError):
                    kind(*["a"] * (len(fields) - 1))
            with self.assertRaises(TypeError):
                kind(odd=1)

    def test_caught_as_room_error_and_value_error_and_as_no_other(self):
        for name, fields in FIELDS.items():
            kind = getattr(errors, name)
            for caught in (kind, errors.RoomError, ValueError):
                with self.assertRaises(caught):
                    raise kind(*["a"] * len(fields))
            error = kind(*["a"] * len(fields))
            for other in FIELDS:
                self.assertEqual(isinstance(error, getattr(errors, other)), other == name)

    def test_equal_fields_do_not_make_errors_equal(self):
        self.assertNotEqual(errors.BadKind("low"), errors.BadKind("low"))


if __name__ == "__main__":
    unittest.main()
