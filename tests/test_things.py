"""[1.1], [1.2]: books, bundles and uses."""

import itertools
import random
import unittest

from nearestkinds.errors import BadBook, NoSorts
from nearestkinds.things import Book, is_bundle, is_use
from tests.samples import BOOK, STRANGE, chain, random_bundle, random_sorts, row, shallow, slow_bundle, wide

LISTS = (("flag", ("yes", "no")),)
HEADS = (("int", ()), ("ptr", ("kind",)), ("opt", ("flag", "number", "kind")))
CLAIMS = ("small",)
KIND = ("kind",)


def letters(many):
    return tuple("abcdefghijkl"[k] for k in range(many))


class BookTest(unittest.TestCase):
    def wrong(self, part, lists, heads, claims):
        with self.assertRaises(BadBook) as told:
            Book(lists, heads, claims)
        self.assertEqual(told.exception.part, part)

    def test_attributes(self):
        book = Book(LISTS, HEADS, CLAIMS)
        self.assertEqual((book.lists, book.heads, book.claims), (LISTS, HEADS, CLAIMS))

    def test_empty(self):
        book = Book((), (), ())
        self.assertEqual((book.lists, book.heads, book.claims), ((), (), ()))

    def test_equal_if_all_three_are(self):
        book = Book(LISTS, HEADS, CLAIMS)
        self.assertEqual(book, Book(LISTS, HEADS, CLAIMS))
        self.assertFalse(book != Book(LISTS, HEADS, CLAIMS))
        others = [Book(LISTS, HEADS, ()), Book(LISTS, HEADS[:2], CLAIMS), Book(LISTS, HEADS[::-1], CLAIMS),
                  Book((("flag", ("no", "yes")),), HEADS, CLAIMS),
                  Book(LISTS + (("way", ("up", "down")),), HEADS, CLAIMS)]
        for other in others + STRANGE + [(LISTS, HEADS, CLAIMS)]:
            self.assertFalse(book == other)
            self.assertTrue(book != other)

    def test_lists_at_the_bounds(self):
        pairs = tuple((name, (name + "a", name + "b")) for name in letters(5))
        Book(pairs[:4], (), ())
        self.wrong("lists", pairs, (), ())
        for many in range(7):
            lists = (("flag", letters(many)),)
            if 2 <= many <= 4:
                Book(lists, (), ())
            else:
                self.wrong("lists", lists, (), ())

    def test_heads_at_the_bounds(self):
        heads = tuple((name, ()) for name in "abcdefghijklm")
        Book((), heads[:12], ())
        self.wrong("heads", (), heads, ())
        for many in range(6):
            heads = (("a", ("kind",) * many),)
            if many <= 3:
                Book((), heads, ())
            else:
                self.wrong("heads", (), heads, ())

    def test_claims_at_the_bounds(self):
        Book((), (), letters(4))
        self.wrong("claims", (), (), letters(5))

    def test_names(self):
        for name in ("a", "z", "abcdefgh", "zzzzzzzz", "kind", "number"):
            Book((("flag", (name, "other")),), ((name, ()),), (name,))
            if name not in ("kind", "number"):
                Book(((name, ("yes", "no")),), (("head", (name,)),), ())
        for name in ["", "abcdefghi", "A", "aB", "a1", "a_", "a b", " a", "a\n", "\u00e9", "\u0430"] + list("`{?~-"):
            self.wrong_name(name)

    def test_strange_names(self):
        for thing in STRANGE:
            if thing not in ("int", "yes", "kind"):
                self.wrong_name(thing)

    def wrong_name(self, name):
        self.wrong("lists", ((name, ("yes", "no")),), (), ())
        self.wrong("lists", (("flag", ("yes", name)),), (), ())
        self.wrong("lists", (("flag", (name, "yes")),), (), ())
        self.wrong("heads", (), ((name, ()),), ())
        self.wrong("claims", (), (), (name,))
        self.wrong("claims", (), (), ("small", name))

    def test_sorts_of_heads(self):
        Book(LISTS, (("a", ("kind", "number", "flag")), ("b", ("flag", "flag", "flag"))), ())
        for sort in STRANGE + ["other", "Kind", "yes", "a"]:
            if sort != "kind":
                self.wrong("heads", LISTS, (("a", (sort,)),), ())
                self.wrong("heads", LISTS, (("int", ()), ("a", ("kind", "kind", sort))), ())
        self.wrong("heads", (), (("a", ("flag",)),), ())

    def test_strange_parts(self):
        for thing in STRANGE:
            if thing != ():
                self.wrong("lists", thing, (), ())
                self.wrong("heads", (), thing, ())
                self.wrong("heads", (), (("a", thing),), ())
            if thing != () and thing != ("~",) and thing != ("?",):
                self.wrong("lists", (("flag", ("yes", "no")), thing), (), ())
            if thing not in ((), ("ptr",), ("nohead",)):
                self.wrong("claims", (), (), thing)
            if thing != ("int", ()):
                self.wrong("heads", (), (thing,), ())
            self.wrong("lists", (thing,), (), ())
            self.wrong("lists", (("flag", thing),), (), ())

    def test_pairs_are_pairs(self):
        self.wrong("lists", (("flag",),), (), ())
        self.wrong("lists", (("flag", ("yes", "no"), ()),), (), ())
        self.wrong("lists", (["flag", ("yes", "no")],), (), ())
        self.wrong("lists", (("flag", ["yes", "no"]),), (), ())
        self.wrong("lists", [("flag", ("yes", "no"))], (), ())
        self.wrong("lists", {"flag": ("yes", "no")}, (), ())
        self.wrong("heads", (), (("int",),), ())
        self.wrong("heads", (), (("int", (), ()),), ())
        self.wrong("heads", (), (["int", ()],), ())
        self.wrong("heads", (), (("int", []),), ())
        self.wrong("heads", (), [("int", ())], ())
        self.wrong("heads", (), {"int": ()}, ())
        self.wrong("claims", (), (), ["small"])
        self.wrong("claims", (), (), "small")

    def test_alike(self):
        self.wrong("lists", (("flag", ("yes", "no")), ("flag", ("up", "down"))), (), ())
        self.wrong("lists", (("flag", ("yes", "yes")),), (), ())
        self.wrong("lists", (("flag", ("yes", "no")), ("other", ("maybe", "no"))), (), ())
        self.wrong("heads", (), (("int", ()), ("int", ("kind",))), ())
        self.wrong("claims", (), (), ("small", "large", "small"))

    def test_lists_called_as_sorts_are(self):
        self.wrong("lists", (("kind", ("yes", "no")),), (), ())
        self.wrong("lists", (("number", ("yes", "no")),), (), ())
        Book((("flag", ("kind", "number")),), (("kind", ("kind",)), ("number", ())), ("kind", "number"))

    def test_one_name_for_all(self):
        Book((("a", ("a", "b")), ("b", ("c", "d"))), (("a", ("a", "b")), ("b", ())), ("a", "b"))

    def test_the_first_wrong_part_is_told(self):
        self.wrong("lists", None, None, None)
        self.wrong("lists", (("kind", ("yes", "no")),), (("int", ("other",)),), ("small", "small"))
        self.wrong("heads", LISTS, (("int", ("other",)),), ("small", "small"))
        self.wrong("lists", (("flag", ("yes", "yes")),), HEADS, 3)
        self.wrong("lists", (("flag", ("yes",)),), (("a", ("flag",)),), ())
        self.wrong("claims", LISTS, HEADS, 3)

    def test_failing_changes_nothing(self):
        book = Book(LISTS, HEADS, CLAIMS)
        with self.assertRaises(BadBook):
            book.__init__((), (), ("small", "small"))
        self.assertEqual(book, Book(LISTS, HEADS, CLAIMS))

    def test_deep_parts(self):
        for thing in (chain(500, ("int",)), chain(500, 3), chain(100000, ("int",))):
            for call in ((thing, (), ()), ((), thing, ()), ((), (), thing), ((thing,), (), ()), ((), (thing,), ()),
                         ((("flag", thing),), (), ()), ((), (("int", thing),), ()), ((), (("int", (thing,)),), ())):
                with self.assertRaises(BadBook):
                    shallow(Book, *call)


class BundleTest(unittest.TestCase):
    def both(self, sorts, thing):
        """Whether a thing is a bundle and a use, by functions that tell flags."""
        told = is_bundle(BOOK, sorts, thing), is_use(BOOK, sorts, thing)
        self.assertIs(type(told[0]), bool)
        self.assertIs(type(told[1]), bool)
        return told

    def test_uses(self):
        for sorts, thing in [
            (KIND, (("int",),)), (KIND, (("~", 0),)), (KIND, (("~", 10 ** 20),)), (("number",), (0,)),
            (("number",), (-7,)), (("number",), (10 ** 5000,)), (("flag",), ("yes",)),
            (("size", "flag"), ("large", "no")),
            (KIND, (("ptr", ("ptr", ("~", 3))),)), (KIND, (("array", ("int",), -1),)),
            (KIND, (("mode", "no", ("int",), "small"),)),
            (("kind", "number", "flag", "kind"), (("int",), 3, "no", ("~", 0))),
        ]:
            self.assertEqual(self.both(sorts, thing), (True, True), thing)

    def test_bundles_that_are_no_uses(self):
        for sorts, thing in [
            (KIND, (("?", 0),)), (KIND, (("?", 999),)), (("number",), (("?", 5),)), (("flag",), (("?", 5),)),
            (("kind", "kind"), (("?", 0), ("?", 0))), (("kind", "number"), (("?", 1), ("?", 0))),
            (KIND, (("array", ("?", 0), ("?", 1)),)),
            (("size", "kind"), (("?", 4), ("mode", ("?", 5), ("int",), ("?", 4)))),
        ]:
            self.assertEqual(self.both(sorts, thing), (True, False), thing)

    def test_no_bundles(self):
        for sorts, thing in [
            (KIND, (3,)), (KIND, ("int",)), (KIND, ("yes",)), (("number",), ("yes",)), (("number",), (True,)),
            (("number",), (("int",),)), (("number",), (("~", 0),)), (("flag",), (("~", 0),)), (("flag",), ("small",)),
            (("flag",), ("flag",)), (("flag",), (0,)), (("flag",), (("yes",),)), (KIND, (("ptr", ("int",), ("int",)),)),
            (KIND, (("ptr",),)), (KIND, (("ptr", ["int"]),)), (KIND, [("int",)]), (KIND, (["int"],)), (KIND, ()),
            (KIND, (("int",), ("int",))), (KIND, ("int", ())), (KIND, (("?", 1000),)), (KIND, (("?", -1),)),
            (KIND, (("?", True),)), (KIND, (("?", False),)), (KIND, (("~", True),)), (KIND, (("~", -1),)),
            (KIND, (("?", "0"),)), (KIND, (["?", 0],)), (KIND, (("?",),)), (KIND, (("?", 0, 0),)),
            (KIND, (("other",),)), (KIND, (("array", ("int",), True),)), (KIND, (("array", 3, ("int",)),)),
            (KIND, (("mode", "small", ("int",), "yes"),)), (KIND, (("mode", "yes", ("int",)),)),
            (("kind", "number"), (("?", 0), ("?", 0))), (("flag", "size"), (("?", 3), ("?", 3))),
            (KIND, (("array", ("?", 0), ("?", 0)),)), (("number", "kind"), (("?", 2), ("ptr", ("ptr", ("?", 2))))),
        ]:
            self.assertEqual(self.both(sorts, thing), (False, False), thing)

    def test_the_words_are_of_the_book(self):
        book = Book((), (("ptr", ()), ("~", ()))[:1], ())
        self.assertTrue(is_use(book, KIND, (("ptr",),)))
        self.assertFalse(is_bundle(book, KIND, (("ptr", ("int",)),)))
        self.assertFalse(is_bundle(book, KIND, (("int",),)))
        self.assertTrue(is_bundle(Book((), (), ()), KIND, (("?", 0),)))

    def test_no_sorts(self):
        right = [("kind",), ("number",), ("flag",), ("kind", "number", "flag", "size"), ("kind",) * 4]
        for sorts in right:
            self.assertEqual(self.both(sorts, None), (False, False))
        wrong = [(), ("kind",) * 5, ["kind"], "kind", ("Kind",), ("other",), ("small",), ("kind", "other"),
                 ("kind", None), ("kind", ["kind"]), (("kind",),), {"kind": 1}, ("ptr", ("ptr",)),
                 chain(300, ("int",)), chain(100000, ("kind",))]
        for sorts in wrong + STRANGE:
            for judge in (is_bundle, is_use):
                for thing in (None, (("int",),)):
                    with self.assertRaises(NoSorts):
                        shallow(judge, BOOK, sorts, thing)
        with self.assertRaises(NoSorts):
            is_bundle(Book((), (), ()), ("flag",), ("yes",))

    def test_strange_things(self):
        for thing in STRANGE:
            for sorts, places in itertools.product((KIND, ("number",), ("flag",), ("size", "kind")), range(3)):
                passed = (thing, (thing,), ("small", thing))[places]
                self.assertEqual(is_bundle(BOOK, sorts, passed), slow_bundle(BOOK, sorts, passed), (sorts, passed))

    def test_one_thing_otherwise_at_any_place(self):
        chance = random.Random(11)
        odd = STRANGE + [("?", 0), ("?", 100), ("?", 999), ("~", 5), "no", "small", ("ptr", ("int",))]
        for _ in range(60):
            sorts = random_sorts(chance)
            right = random_bundle(chance, sorts, 4, 2)
            self.assertTrue(is_bundle(BOOK, sorts, right))
            for wrong in changed(right, odd):
                told = self.both(sorts, wrong)
                self.assertEqual(told[0], slow_bundle(BOOK, sorts, wrong), (sorts, wrong))
                self.assertEqual(told[1], told[0] and '"?"' not in repr(wrong) and "'?'" not in repr(wrong), wrong)

    def test_deep_and_wide(self):
        for deep in (200, 300, 100000):
            self.assertTrue(shallow(is_use, BOOK, KIND, (chain(deep - 1, ("int",)),)))
            self.assertFalse(shallow(is_use, BOOK, KIND, (chain(deep - 1, ("?", 3)),)))
            self.assertTrue(shallow(is_bundle, BOOK, KIND, (chain(deep - 1, ("?", 3)),)))
            self.assertFalse(shallow(is_bundle, BOOK, KIND, (chain(deep - 1, ["int"]),)))
            self.assertFalse(shallow(is_bundle, BOOK, ("kind", "number"), (chain(deep, ("?", 3)), ("?", 3))))
            self.assertFalse(shallow(is_bundle, BOOK, KIND, chain(deep, ("int",))))
        self.assertTrue(shallow(is_use, BOOK, KIND, (wide(1999),)))
        self.assertTrue(shallow(is_bundle, BOOK, KIND, (row([("?", n) for n in range(999)]),)))
        self.assertFalse(shallow(is_bundle, BOOK, KIND, (row([("?", n) for n in range(500, 1001)]),)))

    def test_nothing_is_changed(self):
        thing = (["int"], {"?": 0})
        is_bundle(BOOK, ("kind", "kind"), thing)
        self.assertEqual(thing, (["int"], {"?": 0}))


def changed(thing, odd):
    """All that become of a thing when one part of it is another one, is left out or stands twice, or is a list."""
    told = list(odd)
    if isinstance(thing, tuple):
        told.append(list(thing))
        for k in range(len(thing)):
            told.append(thing[:k] + thing[k + 1:])
            told.append(thing[:k] + thing[k:k + 1] + thing[k:])
            told.extend(thing[:k] + (part,) + thing[k + 1:] for part in changed(thing[k], odd))
    return told
