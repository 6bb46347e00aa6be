"""Tests of the error classes: interface section roundswap/errors.py."""

import unittest

from roundswap import errors

TOWN_ERRORS = {
    "InvalidLetters": ["at"],
    "InvalidWord": ["at"],
    "InvalidCounts": [],
    "InvalidTable": ["at"],
    "InvalidStreet": ["at"],
    "InvalidRule": ["at"],
    "InvalidTolls": ["at"],
    "InvalidStep": ["at"],
    "InvalidLead": ["at"],
    "InvalidNumber": ["given"],
    "ParseError": ["at"],
    "TooLong": ["limit"],
    "TooWide": ["limit"],
    "Endless": [],
    "Unlike": [],
    "NotASum": [],
    "NoWord": [],
    "UnknownRule": ["number"],
    "InvalidName": ["name"],
    "DuplicateName": ["name"],
    "CapacityExceeded": ["limit"],
    "InUse": ["label"],
    "InvalidCommand": ["first"],
    "Broken": ["label"],
    "InvalidLimit": ["given"],
}
BASES = {"TownError": ValueError, "Missing": LookupError, "NothingLeft": IndexError}
FIELDS = {**TOWN_ERRORS, "UnknownName": ["name"], "NothingLeft": [], "TownError": [], "Missing": []}


def base_of(name):
    """Return the listed direct base of an error class."""
    if name in BASES:
        return BASES[name]
    return errors.Missing if name == "UnknownName" else errors.TownError


class ErrorsTest(unittest.TestCase):
    def test_every_class_has_its_direct_base_only(self):
        for name in FIELDS:
            with self.subTest(name):
                self.assertEqual(getattr(errors, name).__bases__, (base_of(name),))

    def test_no_other_class_is_defined(self):
        found = [name for name, value in vars(errors).items() if isinstance(value, type)]
        self.assertEqual(sorted(found), sorted(FIELDS))

    def test_fields_and_tag_are_attributes(self):
        for name, fields in FIELDS.items():
            with self.subTest(name):
                values = [f"value of {field}" for field in fields]
                error = getattr(errors, name)(*values)
                self.assertEqual(vars(error), {**dict(zip(fields, values)), "tag": name})

    def test_classes_are_kinds_of_the_listed_bases_only(self):
        for name in FIELDS:
            for other in FIELDS:
                kind = issubclass(getattr(errors, name), getattr(errors, other))
                listed = name == other or base_of(name) == getattr(errors, other)
                self.assertEqual(kind, listed, (name, other))

    def test_python_kinds(self):
        for name in TOWN_ERRORS:
            kind = getattr(errors, name)
            self.assertTrue(issubclass(kind, ValueError))
            self.assertFalse(issubclass(kind, LookupError))
        self.assertTrue(issubclass(errors.UnknownName, LookupError))
        self.assertFalse(issubclass(errors.UnknownName, (KeyError, IndexError, ValueError)))
        self.assertFalse(issubclass(errors.NothingLeft, ValueError))
