"""[0.4] and the interface: what stands in which file, with which arguments, and what no call changes."""

import inspect
import unittest

from nearestkinds import (alike, cases, clear, demands, descent, early, ends, houses, lessening, patterns, programs,
                          tables, texts, things, trees, views)

INTERFACE = {
    things: {"Book": ["lists", "heads", "claims"], "is_bundle": ["book", "sorts", "thing"],
             "is_use": ["book", "sorts", "thing"]},
    patterns: {"filled": ["bundle", "filling"], "plain": ["bundle"], "common": ["one", "other"],
               "matched": ["bundle", "other"], "meet": ["one", "other"]},
    demands: {"is_facts": ["book", "thing"], "holds": ["demand", "filling", "facts"], "implied": ["one", "other"],
              "neat": ["demand"]},
    tables: {"Table": ["book", "sorts", "rows"], "meeting": ["table", "use", "facts"],
             "nearest": ["table", "use", "facts"], "nearer": ["table", "one", "other"]},
    cases: {"meets": ["table"], "cases": ["table"], "case_of": ["table", "use", "facts"]},
    clear: {"unclear": ["table"], "place_of": ["table", "row"], "is_unclear": ["table", "thing"],
            "is_place": ["table", "row", "thing"], "missing": ["table"], "dead": ["table"]},
    alike: {"unlike": ["one", "other"], "is_unlike": ["one", "other", "thing"]},
    views: {"is_wish": ["table", "thing"], "is_parting": ["table", "seen", "wish", "thing"],
            "parting": ["table", "seen", "wish"], "view": ["table", "wish"]},
    early: {"early": ["table", "wish"], "two": ["table", "wish"], "is_two": ["table", "wish", "thing"]},
    trees: {"is_tree": ["table", "thing"], "is_wrong_at": ["table", "tree", "thing"],
            "led": ["table", "tree", "use", "facts"], "tests": ["table", "tree", "use", "facts"], "tree_for": ["table"],
            "wrong_at": ["table", "tree"]},
    programs: {"Program": ["book", "families"], "worth": ["program", "family", "use", "facts", "most"],
               "uses": ["program", "family", "use", "facts", "most"],
               "record": ["program", "family", "use", "facts", "most"],
               "is_record": ["program", "family", "use", "facts", "thing"]},
    lessening: {"lessened": ["program", "term", "most"]},
    ends: {"falls": ["program", "standing"], "ends": ["program"], "is_ending": ["program", "thing"]},
    descent: {"is_weights": ["program", "thing"], "is_sum": ["program", "thing"], "is_loop": ["program", "thing"],
              "descent": ["program"]},
    texts: {"term_text": ["term"], "bundle_text": ["bundle"], "demand_text": ["demand"], "program_text": ["program"],
            "read_term": ["text"], "read_program": ["text"]},
    houses: {"House": ["book"], "recovered": ["book", "text"]},
}


class InterfaceTest(unittest.TestCase):
    def test_each_name_is_defined_in_its_file(self):
        for module, names in INTERFACE.items():
            for name, arguments in names.items():
                with self.subTest(name):
                    thing = getattr(module, name)
                    self.assertEqual(thing.__module__, module.__name__)
                    self.assertEqual(list(inspect.signature(thing).parameters), arguments)

    def test_methods_stand_in_the_class_itself(self):
        for kind in (things.Book, tables.Table, programs.Program):
            for name in ("__init__", "__eq__"):
                self.assertIn(name, vars(kind))
        for name, arguments in (("__init__", ["self", "book"]), ("tell", ["self", "line"]), ("journal", ["self"])):
            self.assertEqual(list(inspect.signature(vars(houses.House)[name]).parameters), arguments)
        self.assertNotIn("__eq__", vars(houses.House))

    def test_the_attributes_are_those_of_the_interface(self):
        book = things.Book((), (), ())
        self.assertEqual(vars(book), {"lists": (), "heads": (), "claims": ()})
        self.assertEqual(vars(tables.Table(book, ("kind",), ())), {"book": book, "sorts": ("kind",), "rows": ()})
        self.assertEqual(vars(programs.Program(book, ())), {"book": book, "families": ()})
