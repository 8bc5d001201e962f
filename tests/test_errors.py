"""[4], [20]: the error classes."""

import inspect
import unittest

from contentties import errors
from contentties.errors import (
    BadTie, Barred, ContentError, NoChoice, NoCommand, NoIndex, NoText, Nothing, TooFew, TooMany, Unequal, Wrong,
)
from contentties.wants import Want
from contentties.webs import Web
from tests.helpers import NO_INTEGERS, Case

FIELDS = {
    Wrong: ("place",), TooMany: ("limit",), BadTie: ("at",), TooFew: ("pair",), Unequal: ("one", "other"),
    Barred: ("row", "lots"), NoIndex: ("index",), NoChoice: ("kept",), NoText: ("line",), NoCommand: ("line",),
    Nothing: (),
}
VALUES = (0, -1, 10 ** 59, "text", [1, [2]], ((0,), (1,)), {"a": 1}, Want(1, 2), Web(1)) + NO_INTEGERS


class Classes(Case):
    def test_base_is_a_value_error(self):
        self.assertEqual(ContentError.__bases__, (ValueError,))
        self.assertEqual(ContentError.__module__, "contentties.errors")

    def test_each_is_a_content_error_and_no_other_one(self):
        for kind in FIELDS:
            self.assertTrue(issubclass(kind, ContentError))
            self.assertTrue(issubclass(kind, ValueError))
            for other in FIELDS:
                if other is not kind:
                    self.assertFalse(issubclass(kind, other), (kind, other))

    def test_there_are_no_more_error_classes(self):
        found = [thing for thing in vars(errors).values() if inspect.isclass(thing)]
        self.assertEqual(set(found), {ContentError, *FIELDS})

    def test_constructors_have_the_fields_as_arguments(self):
        for kind, names in FIELDS.items():
            if names:
                self.assertEqual(tuple(inspect.signature(kind).parameters), names)

    def test_caught_as_value_error(self):
        for kind, names in FIELDS.items():
            with self.assertRaises(ValueError):
                raise kind(*names)


class Fields(Case):
    def test_content_error_takes_any_number_of_any_values(self):
        self.assertEqual(vars(ContentError()), {})
        for value in VALUES:
            self.assertEqual(vars(ContentError(value)), {})
            self.assertEqual(vars(ContentError(value, 1, value)), {})
        self.assertIs(type(ContentError(*VALUES)), ContentError)

    def test_fields_are_the_very_objects(self):
        for kind, names in FIELDS.items():
            for value in VALUES:
                given = [[value] for _ in names]
                error = kind(*given)
                for name, one in zip(names, given):
                    self.assertIs(getattr(error, name), one)
                error = kind(*[value for _ in names])
                for name in names:
                    self.assertIs(getattr(error, name), value)

    def test_fields_by_keyword(self):
        for kind, names in FIELDS.items():
            given = {name: [name] for name in names}
            error = kind(**given)
            for name in names:
                self.assertIs(getattr(error, name), given[name])

    def test_fields_are_just_the_arguments(self):
        for kind, names in FIELDS.items():
            self.assertEqual(set(vars(kind(*names))), set(names))

    def test_errors_can_be_shown(self):
        for kind, names in FIELDS.items():
            for value in VALUES:
                self.assertIsInstance(str(kind(*[value for _ in names])), str)


if __name__ == "__main__":
    unittest.main()
