"""[0.4] and the interface: what stands in which file, with which arguments, and what no call changes."""

import inspect
import unittest

from nearestkinds import patterns, things

INTERFACE = {
    things: {"Book": ["lists", "heads", "claims"], "is_bundle": ["book", "sorts", "thing"],
             "is_use": ["book", "sorts", "thing"]},
    patterns: {"filled": ["bundle", "filling"], "plain": ["bundle"], "common": ["one", "other"],
               "matched": ["bundle", "other"], "meet": ["one", "other"]},
}


class InterfaceTest(unittest.TestCase):
    def test_each_name_is_defined_in_its_file(self):
        for module, names in INTERFACE.items():
            for name, arguments in names.items():
                with self.subTest(name):
                    thing = getattr(module, name)
                    self.assertEqual(thing.__module__, module.__name__)
                    self.assertEqual(list(inspect.signature(thing).parameters), arguments)

    def test_methods_stand_in_the_class_itself(self):
        for name in ("__init__", "__eq__"):
            self.assertIn(name, vars(things.Book))

    def test_the_attributes_are_those_of_the_interface(self):
        book = things.Book((), (), ())
        self.assertEqual(vars(book), {"lists": (), "heads": (), "claims": ()})
