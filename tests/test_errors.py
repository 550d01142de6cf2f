import unittest
from copy import deepcopy

from tests.samples import odd_values
from xorturns import errors

TURN_ERRORS = {
    "NoLots": (), "OtherWidth": ("index",), "NoProperty": ("name",), "BadWish": ("value",), "EmptyLot": (),
    "TooWide": ("limit",), "BadLot": ("error",), "BadWide": ("error",), "Present": ("mask",),
    "Missing": ("mask",), "TooNear": ("one", "other"), "TooManyEdits": (), "NothingToUndo": (),
    "BadEdits": (), "BadEdit": ("index",), "Rejected": ("index",), "Busy": (), "BadText": ("index",),
}
LOOKUP_ERRORS = {"NoMask": ("value",), "NoIndex": ("value",), "NoVersion": ("value",)}
ALL_ERRORS = {**TURN_ERRORS, **LOOKUP_ERRORS}


def found(name):
    return getattr(errors, name)


class ErrorsTest(unittest.TestCase):

    def test_base_of_turn_errors(self):
        self.assertEqual(errors.TurnError.__bases__, (ValueError,))
        for name in TURN_ERRORS:
            with self.subTest(name):
                self.assertTrue(issubclass(found(name), errors.TurnError))
                self.assertFalse(issubclass(found(name), LookupError))

    def test_base_of_lookup_errors(self):
        for name in LOOKUP_ERRORS:
            with self.subTest(name):
                self.assertTrue(issubclass(found(name), LookupError))
                self.assertFalse(issubclass(found(name), ValueError))

    def test_no_error_is_one_of_another_class(self):
        for name in ALL_ERRORS:
            for other in ALL_ERRORS:
                with self.subTest(name=name, other=other):
                    self.assertEqual(issubclass(found(name), found(other)), name == other)

    def test_fields_are_the_very_objects(self):
        for name, fields in ALL_ERRORS.items():
            for value in [0, -1, 5, 10 ** 40 - 1, *odd_values()]:
                passed = [value, [name], {"b": value}][:len(fields)]
                before = deepcopy(passed)
                error = found(name)(*passed)
                with self.subTest(name=name, value=value):
                    for field, worth in zip(fields, passed):
                        self.assertIs(getattr(error, field), worth)
                    self.assertEqual(passed, before)

    def test_fields_of_two_errors_are_apart(self):
        one, other = errors.TooNear(1, 2), errors.TooNear(3, 4)
        self.assertEqual((one.one, one.other, other.one, other.other), (1, 2, 3, 4))

    def test_number_of_fields(self):
        for name, fields in ALL_ERRORS.items():
            if fields:
                with self.subTest(name):
                    self.assertRaises(TypeError, found(name), *range(len(fields) - 1))
                    self.assertRaises(TypeError, found(name), *range(len(fields) + 1))

    def test_raised_and_caught(self):
        for name, fields in ALL_ERRORS.items():
            made = found(name)(*[[field] for field in fields])
            with self.subTest(name):
                with self.assertRaises(found(name)) as caught:
                    raise made
                self.assertIs(caught.exception, made)
                self.assertIsInstance(str(made), str)
                for field in fields:
                    self.assertEqual(getattr(caught.exception, field), [field])


if __name__ == "__main__":
    unittest.main()
