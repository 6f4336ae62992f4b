"""[0.3]: the errors, their fields and their bases."""

import copy
import pickle
import unittest

from nearestkinds import errors
from tests.samples import STRANGE

FIELDS = {
    "BadBook": ["part"], "BadTable": ["part"], "BadProgram": ["part"], "BadText": ["place"], "TooMany": ["most"],
    "NeedsItself": ["family", "use"], "Unclear": ["family", "use"], "Unmet": ["family", "use"], "NoName": ["name"],
    "Kept": ["name"], "NoSorts": [], "NoUse": [], "NoFacts": [], "NoRow": [], "NoLot": [], "NoWish": [],
    "NoTree": [], "NoFamily": [], "NoMany": [], "NoTerm": [], "NoStanding": [], "NoLine": [], "NoText": [],
    "NothingDone": [], "NotClear": [], "NotRooted": [], "OtherPlaces": [], "TooGreat": [],
}


class ErrorsTest(unittest.TestCase):
    def test_all_are_there_and_no_others(self):
        told = [name for name, thing in vars(errors).items() if isinstance(thing, type)]
        self.assertEqual(len(FIELDS), 28)
        self.assertEqual(sorted(told), sorted(["KindError"] + list(FIELDS)))

    def test_bases(self):
        self.assertEqual(errors.KindError.__bases__, (ValueError,))
        for name in FIELDS:
            with self.subTest(name):
                self.assertEqual(getattr(errors, name).__bases__, (errors.KindError,))

    def test_just_the_fields(self):
        for name, fields in FIELDS.items():
            with self.subTest(name):
                passed = [object() for _ in fields]
                error = getattr(errors, name)(*passed)
                self.assertIs(type(error), getattr(errors, name))
                self.assertEqual(vars(error), dict(zip(fields, passed)))

    def test_fields_by_name(self):
        for name, fields in FIELDS.items():
            with self.subTest(name):
                error = getattr(errors, name)(**{field: field for field in fields})
                self.assertEqual(vars(error), {field: field for field in fields})

    def test_made_with_no_less_and_no_more(self):
        for name, fields in FIELDS.items():
            with self.subTest(name):
                self.assertRaises(TypeError, getattr(errors, name), *fields, "more")
                if fields:
                    self.assertRaises(TypeError, getattr(errors, name), *fields[1:])

    def test_whatever_is_passed(self):
        for name, fields in FIELDS.items():
            for thing in STRANGE if fields else []:
                error = getattr(errors, name)(*[thing for _ in fields])
                for field in fields:
                    self.assertIs(getattr(error, field), thing)

    def test_raised_and_caught(self):
        for name, fields in FIELDS.items():
            with self.assertRaises(errors.KindError) as told:
                raise getattr(errors, name)(*fields)
            self.assertIs(type(told.exception), getattr(errors, name))

    def test_copied(self):
        for name, fields in FIELDS.items():
            error = getattr(errors, name)(*fields)
            for other in (copy.copy(error), pickle.loads(pickle.dumps(error))):
                self.assertIs(type(other), type(error))
                self.assertEqual(vars(other), vars(error))
