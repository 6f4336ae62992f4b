"""[12.1], [12.2]: texts of terms, bundles, demands and programs, and reading them."""

import random
import unittest

from nearestkinds.errors import BadBook, BadProgram, BadTable, BadText
from nearestkinds.houses import House
from nearestkinds.programs import Program
from nearestkinds.reading import begin_demand, read_bundle, read_one
from nearestkinds.tables import Table
from nearestkinds.texts import bundle_text, demand_text, program_text, read_program, read_term, term_text
from nearestkinds.things import Book
from tests.samples import STRANGE, chain, shallow
from tests.slow import A, B, DESK, INT, KIND, both, claim, either, new, pair, ptr, table, tri
from tests.slow_programs import (call, family, less, minus, plus, program, put_for, some_program, some_term,
                                 term_written, times)
from tests.slow_roots import some_garden
from tests.slow_texts import (demand_written, first_wrong, first_wrong_line, of_bundle, of_demand, of_term,
                              program_written)

EVEN = claim("even", 0)
SIGNS = "abz09 5(),;?~!+-*<&|=>@AZ_.\n\t"


def read_demand(text):
    """The demand that has just this text."""
    return read_one(text, begin_demand)


class TextTest(unittest.TestCase):
    def test_of_terms(self):
        for term, text in [
            (0, "0"), (7, "7"), (-7, "-7"), (10 ** 19, "1" + "0" * 19), (-10 ** 19, "-1" + "0" * 19), ("yes", "yes"),
            (A, "?0"),
            (("?", 999), "?999"), (new(0), "~0"), (new(123456789), "~123456789"), (INT, "int()"), (ptr(A), "ptr(?0)"),
            (pair(INT, ptr(new(3))), "pair(int(),ptr(~3))"), (("opt", "yes", -3, B), "opt(yes,-3,?1)"),
            (call("f", A), "!f(?0)"), (call("f", A, 3, "no"), "!f(?0,3,no)"), (call("f", call("g", A)), "!f(!g(?0))"),
            (plus(1, 2), "+(1,2)"), (minus(1, -2), "-(1,-2)"), (times(A, plus(1, 2)), "*(?0,+(1,2))"),
            (less(1, A, INT, ptr(INT)), "<(1,?0,int(),ptr(int()))"),
            (ptr(less(1, 2, call("f", A), A)), "ptr(<(1,2,!f(?0),?0))"),
            (minus(minus(1, 2), 3), "-(-(1,2),3)"), (10 ** 999, "1" + "0" * 999), (1 - 10 ** 1000, "-" + "9" * 1000),
        ]:
            self.assertEqual(term_text(term), text)
            self.assertEqual(bundle_text((term,)), text)
            self.assertEqual(bundle_text((term, A, term)), f"{text};?0;{text}")
            if len(text) < 22:
                self.assertEqual(repr(read_term(text)), repr(term))
                self.assertEqual(read_bundle(f"{text};?0;{text}"), (term, A, term))

    def test_example(self):
        self.assertEqual(bundle_text((("ptr", ("?", 0)), ("int",))), "ptr(?0);int()")

    def test_of_demands(self):
        for demand, text in [
            (None, ""), (EVEN, "even(?0)"), (both(EVEN, claim("odd", 12)), "&(even(?0),odd(?12))"),
            (either(EVEN, claim("odd", 1)), "|(even(?0),odd(?1))"),
            (both(either(EVEN, EVEN), either(claim("odd", 1), both(EVEN, claim("bad", 2)))),
             "&(|(even(?0),even(?0)),|(odd(?1),&(even(?0),bad(?2))))"),
        ]:
            self.assertEqual(demand_text(demand), text)
            if text:
                self.assertEqual(read_demand(text), demand)

    def test_deep(self):
        for deep in (1, 2, 199, 200):
            for one in (ptr, lambda inner: call("f", inner), lambda inner: plus(1, inner),
                        lambda inner: less(1, 2, 3, inner)):
                term = 7
                for _ in range(deep - 1):
                    term = one(term)
                text = shallow(term_text, term)
                self.assertEqual(shallow(term_text, shallow(read_term, text)), text)
                self.assertEqual(shallow(bundle_text, shallow(read_bundle, text + ";3")), text + ";3")
            demand = EVEN
            for _ in range(deep - 1):
                demand = both(claim("odd", 1), either(demand, EVEN)) if deep == 2 else both(demand, EVEN)
            text = shallow(demand_text, demand)
            self.assertEqual(shallow(demand_text, shallow(read_demand, text)), text)
        self.assertEqual(shallow(term_text, chain(1999, INT)), "ptr(" * 1999 + "int()" + ")" * 1999)

    def test_random(self):
        chance = random.Random(1201)
        families = {"f": (("kind", "number"), "kind"), "g": (("kind",), "number"), "h": (("flag",), "size")}
        for _ in range(500):
            unknowns = {0: "kind", 13: "kind", 999: "number", 4: "flag", 5: "size"}
            term = some_term(chance, chance.choice(["kind", "number", "flag", "size"]), unknowns, families,
                             chance.randrange(1, 6))
            term = put_for(term, {13: new(chance.randrange(10 ** 9))})
            self.assertEqual(term_text(term), term_written(term))
            self.assertEqual(read_term(term_text(term)), term)


class ReadTermTest(unittest.TestCase):
    def told(self, text, place):
        if place is None:
            self.assertEqual(term_text(shallow(read_term, text)), text)
            return
        with self.assertRaises(BadText) as told:
            shallow(read_term, text)
        self.assertEqual(told.exception.place, place, text)

    def test_no_strings(self):
        for thing in STRANGE:
            if type(thing) is not str:
                self.told(thing, 0)

    def test_places(self):
        for text, place in [
            ("", 0), ("0", None), ("00", 1), ("01", 1), ("-", 1), ("-0", 1), ("-1", None), ("--1", 1), ("-a", 1),
            ("-(", 2), ("-(1", 4 - 1),
            ("9" * 20, None), ("9" * 21, 20), ("-" + "9" * 20, None), ("-" + "9" * 21, 21), ("1a", 1), ("1 ", 1),
            (" 1", 0), ("1\n", 1),
            ("a", None), ("abcdefgh", None), ("abcdefghi", 8), ("abcdefgh(", 9), ("abcdefgh()", None), ("A", 0),
            ("aB", 1), ("a1", 1), ("a_", 1),
            ("?", 1), ("?0", None), ("?00", 2), ("?999", None), ("?1000", 4), ("?-1", 1), ("?a", 1), ("~", 1),
            ("~0", None), ("~01", 2),
            ("~999999999", None), ("~1234567890", 10), ("~a", 1), ("int(", 4), ("int()", None), ("int())", 5),
            ("int(,", 4), ("int(1", 5),
            ("int(1,", 6), ("int(1,)", 6), ("int(1)", None), ("int(1,2,3,4,5)", None), ("int(1;2)", 5), ("int(())", 4),
            ("int()()", 5),
            ("!", 1), ("!f", 2), ("!f(", 3), ("!f()", 3), ("!f(1)", None), ("!f(1,2,3,4,5,6)", None), ("!(1)", 1),
            ("!?0(1)", 1), ("!abcdefghi(1)", 9),
            ("!f1", 2), ("!f,", 2), ("!!f(1)", 1), ("!f(!f(", 6), ("!f(!f()", 6), ("+", 1), ("+1", 1), ("+(", 2),
            ("+()", 2), ("+(1)", 3), ("+(1,", 4),
            ("+(1,)", 4), ("+(1,2", 5), ("+(1,2)", None), ("+(1,2,", 5), ("+(1,2,3)", 5), ("-(1)", 3),
            ("-(1,2)", None), ("-(1,2,3)", 5), ("*(1)", 3),
            ("*(1,2)", None), ("*(1,2,3)", 5), ("-(-1,-2)", None), ("-(-(1,2),-3)", None), ("<", 1), ("<(", 2),
            ("<()", 2), ("<(1)", 3), ("<(1,2)", 5),
            ("<(1,2,3)", 7), ("<(1,2,3,", 8), ("<(1,2,3,4", 9), ("<(1,2,3,4)", None), ("<(1,2,3,4,", 9),
            ("<(1,2,3,4,5)", 9), ("/(1,2)", 0), (">(1,2)", 0),
            ("&(a(?0),a(?0))", 0), (",", 0), (")", 0), ("(", 0), (";", 0), ("1;2", 1), ("a(b(c(d)))", None),
            ("a(b(c(d))", 9), ("+(int(),yes)", None),
            ("<(yes,~3,!f(?0),?0)", None), ("ptr(~3,!f(~4))", None), ("a(\n)", 2), ("\n", 0), ("a(b,\nc)", 4),
        ]:
            self.told(text, place)
            self.assertEqual(first_wrong(of_term, text), place, text)

    def test_as_deep_as_terms_may_be(self):
        for many in (198, 199, 200, 201, 250):
            for opening, closing in [("ptr(", ")"), ("!f(", ")"), ("+(1,", ")"), ("-(", ",1)"), ("<(1,2,", ",3)"),
                                     ("*(", ",2)")]:
                # Of kinds what is too deep is what stands within them, of a difference its parenthesis.
                place = {"ptr(": 200 * 4, "-(": 199 * 2 + 1}.get(opening, 199 * len(opening))
                self.told(opening * many + "7" + closing * many, None if many < 200 else place)
            self.told("ptr(" * many + "int()" + ")" * many, None if many < 200 else 800)
        # At 200 deep there may be no things within a kind, no call, no sum; but integers below 0.
        for end, place in [("", 796), ("int()", None), ("int(", 800), ("int(1", 800), ("int(,", 800), ("int", 799),
                           ("-1", None), ("-(", 797), ("-", 797),
                           ("+", 796), ("!", 796), ("*", 796), ("<", 796), ("?1", None), ("~1", None), ("yes", None)]:
            closed = end in ("int()", "-1", "?1", "~1", "yes")
            self.told("ptr(" * 199 + end + ")" * 199 * closed, place)
        self.told("ptr(" * 200, 800)
        self.told("ptr(" * 200 + ")" * 200, None)
        self.told("ptr(" * 200 + ",", 800)
        self.told("ptr(" * 5000, 800)
        self.told("-(" * 5000, 2 * 199 + 1)
        self.told("!f(" * 5000, 3 * 199)
        self.told("ptr(1," * 2500, 6 * 200 - 2)

    def test_cut_anywhere(self):
        for text in ["<(-12,+(?3,*(0,~45)),!f(ptr(int()),yes),opt(no))", "tri(int(),!g(-(1,2)),?999,abcdefgh)"]:
            for k in range(len(text)):
                self.told(text[:k], first_wrong(of_term, text[:k]))
                for sign in "a0(),?~!+-< ":
                    self.told(text[:k] + sign + text[k:], first_wrong(of_term, text[:k] + sign + text[k:]))
                    self.told(text[:k] + sign + text[k + 1:], first_wrong(of_term, text[:k] + sign + text[k + 1:]))
                self.told(text[:k] + text[k + 1:], first_wrong(of_term, text[:k] + text[k + 1:]))
            self.told(text, None)

    def test_random(self):
        chance = random.Random(1202)
        families = {"f": (("kind", "number"), "kind"), "g": (("kind",), "number")}
        seen = [0, 0]
        for _ in range(2000):
            term = some_term(chance, chance.choice(["kind", "number"]), {3: "kind", 999: "number"}, families,
                             chance.randrange(1, 5))
            text = list(term_text(term))
            for _ in range(chance.randrange(4)):
                at = chance.randrange(len(text) + 1)
                text[at:at + chance.randrange(2)] = [chance.choice(SIGNS)] * chance.randrange(2)
            text = "".join(text)
            place = first_wrong(of_term, text)
            seen[place is None] += 1
            self.told(text, place)
        self.assertGreater(min(seen), 200)


class ReadOthersTest(unittest.TestCase):
    """Bundles and demands are read by houses."""

    def places(self, read, house_line, text, place):
        if place is None:
            read(text)
            return
        with self.assertRaises(BadText) as told:
            shallow(read, text)
        self.assertEqual(told.exception.place, place, text)
        if text and " " not in text and "\n" not in text:
            house = House(DESK)
            house.tell("family f kind kind")
            with self.assertRaises(BadText) as told:
                shallow(house.tell, house_line(text))
            self.assertEqual(told.exception.place, place, text)

    def bundle(self, text, place):
        self.places(read_bundle, lambda word: f"choice f {word}", text, place)
        self.assertEqual(first_wrong(of_bundle, text), place, text)

    def demand(self, text, place):
        self.places(read_demand, lambda word: f"row f a ?0 if {word} = ?0", text, place)
        self.assertEqual(first_wrong(of_demand, text), place, text)

    def test_bundles(self):
        for text, place in [("", 0), ("1", None), ("1;2", None), ("1;", 2), (";1", 0), ("1;;2", 2), ("ptr(1;2)", 5),
                            ("ptr(1);yes;?0;~3;-4", None),
                            ("1;2;3;4;5;6", None), ("1,2", 1), ("1;02", 3), ("1; 2", 2), ("?1000;3", 4),
                            ("3;?1000", 6), ("3;" + "9" * 21, 22),
                            ("!f(3);+(1,2)", None), ("a;b)", 3)]:
            self.bundle(text, place)

    def test_demands(self):
        for text, place in [
            ("", 0), ("even(?0)", None), ("even(?999)", None), ("even(?1000)", 9), ("even(?00)", 7), ("even", 4),
            ("even(", 5), ("even(0)", 5), ("even(?)", 6),
            ("even(?0", 7), ("even(?0))", 8), ("even(?0),odd(?0)", 8), ("abcdefgh(?0)", None), ("abcdefghi(?0)", 8),
            ("&", 1), ("&(", 2), ("&()", 2),
            ("&(even(?0))", 10), ("&(even(?0),odd(?1))", None), ("&(even(?0),odd(?1),", 18),
            ("|(even(?0),odd(?1))", None), ("|(a(?0),&(b(?1),c(?2)))", None),
            ("|(a(?0),&(b(?1)))", 15), ("even(?0);odd(?0)", 8), ("?0", 0), ("~0", 0), ("!f(3)", 0),
            ("+(a(?0),b(?0))", 0), ("even(?0,?1)", 7), ("1", 0),
        ]:
            self.demand(text, place)

    def test_as_deep_as_demands_may_be(self):
        for many in (198, 199, 200, 250):
            text = "&(" * many + "even(?0)" + ",odd(?1))" * many
            self.places(read_demand, lambda word: f"row f a ?0 if {word} = ?0", text, None if many < 200 else 2 * 199)
            text = "|(odd(?1)," * many + "even(?0)" + ")" * many
            self.places(read_demand, lambda word: f"row f a ?0 if {word} = ?0", text, None if many < 200 else 10 * 199)

    def test_cut_anywhere(self):
        text = "|(even(?10),&(odd(?0),|(a(?1),bc(?999))))"
        for k in range(len(text)):
            self.demand(text[:k], first_wrong(of_demand, text[:k]))
            for sign in SIGNS:
                self.demand(text[:k] + sign + text[k:], first_wrong(of_demand, text[:k] + sign + text[k:]))
        text = "ptr(?3);-(1,2);yes;int()"
        for k in range(len(text)):
            self.bundle(text[:k], first_wrong(of_bundle, text[:k]))
            for sign in SIGNS:
                self.bundle(text[:k] + sign + text[k:], first_wrong(of_bundle, text[:k] + sign + text[k:]))


class ProgramTextTest(unittest.TestCase):
    one = program(family("f", ("kind", "flag", "number"), "kind",
                         ((A, "yes", ("?", 2)), both(EVEN, claim("odd", 0)), ptr(A)),
                         ((ptr(A), B, 3), call("f", A, B, minus(3, 1)))), family("g", KIND, "number"),
                         family("h", ("size",), "size", ((A,), A)))
    text = """list flag yes no
list size small middle large
head int
head ptr kind
head pair kind kind
head opt flag number kind
head mode size kind
head tri kind kind kind
claim even
claim odd
claim good
claim bad
family f kind kind flag number
row a ?0;yes;?2 if &(even(?0),odd(?0)) = ptr(?0)
row b ptr(?0);?1;3 = !f(?0,?1,-(3,1))
family g number kind
family h size size
row a ?0 = ?0
"""

    def told(self, error, text, **fields):
        with self.assertRaises(error) as told:
            shallow(read_program, text)
        self.assertIs(type(told.exception), error)
        self.assertEqual(vars(told.exception), fields, text)

    def test_ordinary(self):
        self.assertEqual(program_text(self.one), self.text)
        self.assertEqual(read_program(self.text), self.one)
        empty = Program(Book((), (), ()), ())
        self.assertEqual(program_text(empty), "")
        self.assertEqual(read_program(""), empty)
        self.assertEqual(read_program("claim f\n"), Program(Book((), (), ("f",)), ()))
        self.assertEqual(read_program("family f kind kind\n"),
                         Program(Book((), (), ()), (("f", Table(Book((), (), ()), KIND, ()), "kind", ()),)))

    def test_no_strings(self):
        for thing in STRANGE:
            if type(thing) is not str:
                self.told(BadText, thing, place=0)

    def test_forms(self):
        for line in [
            "", " ", "list", "list ", "list a ", "list a  b", " list a b", "list A b", "list a B", "list a b,c",
            "list abcdefghi", "lists a b", "List a b",
            "head", "head ", "head 1", "head a kind ", "head a  kind", "head a KIND", "heads a", "claim", "claim ",
            "claim a b", "claim a ", "claim abcdefghi",
            "family", "family f", "family f ", "family f kind ", "family f kind  kind", "family F kind kind",
            "family f kind 1", "familyf kind kind",
            "row", "row a", "row a ?0", "row a ?0 =", "row a ?0 = ", "row a  = ?0", "row  ?0 = ?0", "row a ?0 == ?0",
            "row a ?0 = ?0 ", "row a ?0 = ?0 ?0",
            "row A ?0 = ?0", "row a ?0  = ?0", "row a ?0 = ?1000", "row a ?1000 = ?0", "row a ?0; = ?0",
            "row a 00 = ?0", "row a ?0 = +(1)", "row a ?0 if = ?0",
            "row a ?0 if  = ?0", "row a ?0 if even(?0) ?0", "row a ?0 if even(0) = ?0", "row a ?0 if ?0 = ?0",
            "row a ?0 of even(?0) = ?0", "row a ?0 if even(?0) == ?0",
            "row a ?0 if even(?0) = ?0 = ?0", "row a = = =", "undo", "take f a", "fact even int()", "show", "#",
            "list flag yes no\r",
            "row a ?0 = " + "ptr(" * 200 + "?0" + ")" * 200, "row a " + "ptr(" * 200 + "?0" + ")" * 200 + " = ?0",
        ]:
            for ahead, behind in [("", ""), (self.text, ""), (self.text, self.text), ("list flag yes no\n", "row"),
                                  ("family f kind kind\n", "\n\n")]:
                self.told(BadText, ahead + line + "\n" + behind, place=ahead.count("\n") + 1)

    def test_lines_that_cannot_stand_there(self):
        for text, place in [
            ("row a ?0 = ?0\n", 1), ("claim a\nrow a ?0 = ?0\n", 2), ("head a\nlist a b c\n", 2),
            ("claim a\nhead b\n", 2), ("claim a\nlist a b c\n", 2),
            ("family f kind kind\nclaim a\n", 2), ("family f kind kind\nhead a\n", 2),
            ("family f kind kind\nlist a b c\n", 2),
            ("family f kind kind\nrow a ?0 = ?0\nclaim a\n", 3),
            ("family f kind kind\nrow a ?0 = ?0\nfamily g kind kind\nhead a\n", 4),
            ("claim a\nfamily f kind kind\nrow a ?0 = ?0\nrow b ?0 = ?0\nlist a b c\nrow\n", 5),
        ]:
            self.told(BadText, text, place=place)
            self.told(BadText, text + "rest", place=place)

    def test_what_stands_behind_the_last_line(self):
        for rest in (" ", "x", "claim", "family f kind kind", "row a ?0 = ?0"):
            self.told(BadText, rest, place=1)
            self.told(BadText, self.text + rest, place=self.text.count("\n") + 1)
        self.told(BadText, self.text[:-1], place=self.text.count("\n"))
        self.told(BadText, "claim a\nclaim a\nfamily f f f\nx", place=4)

    def test_what_the_book_refuses(self):
        for text, part in [
            ("list a\n", "lists"), ("list a b\n", "lists"), ("list a b c d e f\n", "lists"), ("list a b b\n", "lists"),
            ("list a b c\nlist a d e\n", "lists"),
            ("list a b c\nlist d c e\n", "lists"), ("list kind a b\n", "lists"), ("list number a b\n", "lists"),
            ("list a b c\n" * 5, "lists"),
            ("head a\nhead a\n", "heads"), ("head a b\n", "heads"), ("head a kind kind kind kind\n", "heads"),
            ("claim a\nclaim a\n", "claims"),
            ("".join(f"claim {name}\n" for name in "abcde"), "claims"),
            ("".join(f"head {name}\n" for name in "abcdefghijklm"), "heads"),
            ("head a b\nclaim a\nclaim a\n", "heads"), ("list a b\nhead a b\n", "lists"),
            ("list a b\nfamily f f f\nrow a ?0 = ?0\n", "lists"),
        ]:
            self.told(BadBook, text, part=part)
        self.assertEqual(read_program("list a b c\nhead a a number kind\nclaim a\n").book,
                         Book((("a", ("b", "c")),), (("a", ("a", "number", "kind")),), ("a",)))

    def test_what_tables_refuse(self):
        first = "head int\nclaim even\n"
        for text, part in [
            ("family f kind\n", "sorts"), ("family f kind flag\n", "sorts"),
            ("family f kind kind kind kind kind kind\n", "sorts"),
            ("family f kind kind\nrow a ?0;?1 = ?0\n", 0), ("family f kind kind\nrow a 3 = ?0\n", 0),
            ("family f kind kind\nrow a ~0 = ?0\n", 0),
            ("family f kind kind\nrow a ?0 = ?0\nrow a int() = ?0\n", 1),
            ("family f kind kind\nrow a ?0 = ?0\nrow b ?1 = ?1\n", 1),
            ("family f kind kind\nrow a !f(?0) = ?0\n", 0), ("family f number number\nrow a +(1,2) = 3\n", 0),
            ("family f kind kind\nrow a ?20 = ?20\n", 0),
            ("family f kind kind\nrow a ?0 if odd(?0) = ?0\n", 0),
            ("family f kind kind\nrow a ?0 if even(?1) = ?0\n", 0),
            ("family f kind kind\nrow a ?0 if " + "&(" * 4 + "even(?0)" + ",even(?0))" * 4 + " = ?0\n", 0),
            ("family f kind kind\n" + "".join(f"row {name} ?0 = ?0\n" for name in "abcdefghijk"), "rows"),
            # The first family whose table cannot be made, ahead of all that a program refuses.
            ("family f flag kind\nfamily f kind kind\nrow a ?0 = 3\nfamily g kind none\n", "sorts"),
            ("family f kind kind\nrow a 3 = 3\nfamily g kind none\n", 0),
            ("family g kind none\nfamily f kind kind\nrow a 3 = 3\n", "sorts"),
        ]:
            self.told(BadTable, first + text, part=part)

    def test_what_programs_refuse(self):
        first = "head int\nclaim even\n"
        for text, part in [
            ("family f flag kind\n", 0), ("family f kind kind\nfamily f kind kind\n", 1),
            ("family f kind kind\nrow a ?0 = 3\n", 0),
            ("family f kind kind\nrow a ?0 = ?1\n", 0), ("family f kind kind\nrow a ?0 = !g(?0)\n", 0),
            ("family f kind kind\nrow a ?0 = ~0\n", 0),
            ("family f kind kind\nrow a ?0 = " + "!f(" * 10 + "?0" + ")" * 10 + "\n", 0),
            ("".join(f"family {name} kind kind\n" for name in "abcdefghi"), "families"),
            ("family g kind kind\nfamily f kind kind\nrow a ?0 = 3\n", 1),
            ("family f kind kind\nrow a ?0 = 3\nfamily f kind kind\n", 1),
            ("family f kind kind\nrow a ?0 = 3\nfamily g flag kind\n", 1),
        ]:
            self.told(BadProgram, first + text, part=part)
        self.assertTrue(read_program(first + "family f kind kind\nrow a ?0 = " + "!f(" * 9 + "?0" + ")" * 9 + "\n"))

    def test_cut_anywhere(self):
        text = ("list a yes no\nhead int\nhead p kind a\nclaim c\nfamily f kind kind a\n"
                "row x ?0;yes if c(?0) = p(!f(?0,no),yes)\nfamily g a kind\n")
        one = read_program(text)
        self.assertEqual(program_text(one), text)
        for k in range(len(text)):
            self.read_as_it_should(text[:k])
            self.read_as_it_should(text[:k] + text[k + 1:])
            for sign in "ab0 (?\n=":
                self.read_as_it_should(text[:k] + sign + text[k:])
        lines = text.splitlines(True)
        for k in range(len(lines)):
            self.read_as_it_should("".join(lines[:k] + lines[k + 1:]))
            for j in range(len(lines)):
                self.read_as_it_should("".join(lines[:k] + [lines[j]] + lines[k:]))

    def read_as_it_should(self, text):
        """BadText of the right line, or a program with just this text, or what it is that refuses."""
        place = first_wrong_line(text)
        if place is not None:
            self.told(BadText, text, place=place)
            return
        try:
            one = read_program(text)
        except (BadBook, BadTable, BadProgram):
            return
        self.assertEqual(program_text(one), text)

    def test_the_fact_of_texts(self):
        chance = random.Random(1203)
        for k in range(150):
            one = some_program(chance, 3) if k % 3 else some_garden(chance, 3)
            text = shallow(program_text, one)
            self.assertEqual(text, program_written(one))
            self.assertEqual(shallow(read_program, text), one)

    def test_as_they_are_written(self):
        one = program(("f", Table(DESK, KIND, (("a", (A,), None), ("b", (tri(A, A, ("?", 19)),), claim("bad", 19)))),
                       "kind", (INT, ("?", 19))))
        self.assertEqual(program_text(one).splitlines()[-2:],
                         ["row a ?0 = int()", "row b tri(?0,?0,?19) if bad(?19) = ?19"])
        self.assertEqual(demand_written(both(EVEN, EVEN)), demand_text(both(EVEN, EVEN)))
        self.assertEqual(program_text(program(("f", table(KIND, (pair(A, B),)), "kind", (B,)))).splitlines()[-1],
                         "row a pair(?0,?1) = ?1")


if __name__ == "__main__":
    unittest.main()
