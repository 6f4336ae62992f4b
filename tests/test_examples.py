"""The examples at the document's end, and those of README.md."""

import pathlib
import unittest

from nearestkinds.cases import cases
from nearestkinds.clear import missing
from nearestkinds.demands import neat
from nearestkinds.early import early
from nearestkinds.patterns import common, meet
from nearestkinds.tables import Table, meeting, nearest
from nearestkinds.texts import bundle_text
from nearestkinds.things import Book
from nearestkinds.views import view

b = Book((("flag", ("yes", "no")),), (("int", ()), ("ptr", ("kind",)), ("pair", ("kind", "kind"))), ("small",))
t = Table(b, ("kind",), (("any", (("?", 0),), None), ("ptr", (("ptr", ("?", 0)),), None),
                         ("best", (("ptr", ("int",)),), None)))
u = Table(b, ("kind", "kind"), (("one", (("int",), ("?", 0)), None), ("two", (("?", 0), ("int",)), None)))


class ExamplesTest(unittest.TestCase):
    def test_e01(self):
        self.assertEqual(nearest(t, (("ptr", ("int",)),), ()), ("row", "best"))
        self.assertEqual(meeting(t, (("ptr", ("int",)),), ()), (0, 1, 2))

    def test_e02(self):
        self.assertEqual(meet((("?", 0), ("int",)), (("int",), ("?", 0))), (("int",), ("int",)))
        self.assertEqual(common((("ptr", ("int",)),), (("ptr", ("ptr", ("int",))),)), (("ptr", ("?", 0)),))

    def test_e03(self):
        self.assertEqual(missing(u), [(("int",), ("int",))])
        self.assertEqual(missing(t), [])

    def test_e04(self):
        self.assertEqual(cases(t), [((("~", 0),), ()), ((("ptr", ("~", 0)),), ()), ((("ptr", ("int",)),), ())])

    def test_e05(self):
        self.assertEqual(view(t, ((("ptr", ("?", 0)),), None)), (1, 2))
        self.assertEqual(early(t, ((("ptr", ("ptr", ("?", 0))),), None)), ("row", "ptr"))

    def test_e06(self):
        demand = ("both", ("claim", "small", 1), ("either", ("claim", "small", 0), ("claim", "small", 1)))
        self.assertEqual(neat(demand), ((("small", 1),),))

    def test_e07(self):
        self.assertEqual(bundle_text((("ptr", ("?", 0)), ("int",))), "ptr(?0);int()")


class ReadmeTest(unittest.TestCase):
    def test_each_line_that_tells_what_it_comes_to(self):
        text = (pathlib.Path(__file__).resolve().parent.parent / "README.md").read_text()
        known, many = {}, 0
        for block in text.split("```python\n")[1:]:
            block = block.split("```")[0]
            exec(block, known)
            for line in block.splitlines():
                call, sign, told = line.partition("  # ")
                if sign:
                    self.assertEqual(eval(call, known), eval(told, known), line)
                    many += 1
        self.assertGreater(many, 12)
