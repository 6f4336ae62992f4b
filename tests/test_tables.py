"""[2.2], [2.3]: tables, the rows that meet a use, and the nearest of them."""

import itertools
import random
import unittest

from nearestkinds.cases import cases, meets
from nearestkinds.errors import BadTable, NoFacts, NoRow, NoUse
from nearestkinds.tables import Table, meeting, nearer, nearest
from nearestkinds.things import Book
from tests.great import (LETTERS, MEETS_200, MEETS_201, PARTS_200, PARTS_201, SORTS_OF_CASES, SORTS_OF_PLACES,
                         cases_2000, cases_2001)
from tests.samples import STRANGE, chain, count, renamed, shallow, slow_bundle, slow_meet, wide
from tests.slow import (A, B, C, DESK, INT, KIND, SORTS, both, claim, either, new, other_things, pair, ptr,
                        slow_choice, slow_meets_row, slow_nearer, some_facts, some_table, some_use, table, tri)

EVEN, ODD = claim("even", 0), claim("odd", 0)
TWO = ("kind", "kind")


def called(demand, names):
    """A demand about other unknowns."""
    if demand is None:
        return None
    if demand[0] == "claim":
        return claim(demand[1], names[demand[2]][1])
    return (demand[0], called(demand[1], names), called(demand[2], names))


class BadTableTest(unittest.TestCase):
    def wrong(self, part, sorts, rows, book=DESK):
        with self.assertRaises(BadTable) as told:
            shallow(Table, book, sorts, rows)
        self.assertEqual((type(told.exception.part), told.exception.part), (type(part), part))

    def wrong_row(self, sorts, row):
        """A row that is none is told by its number, wherever it stands."""
        self.wrong(0, sorts, (row,))
        right = tuple((label, tuple({"kind": INT, "number": 70 + k, "flag": "yes", "size": "small"}[sort]
                                    for sort in sorts), None) for k, label in enumerate(("first", "second")))
        right = right if "number" in sorts else right[:1]
        self.wrong(len(right), sorts, right + (row,))
        self.wrong(len(right), sorts, right + (row, row, None))

    def test_attributes(self):
        rows = (("a", (A,), None), ("b", (ptr(A),), EVEN))
        one = Table(DESK, KIND, rows)
        self.assertEqual((one.book, one.sorts, one.rows), (DESK, KIND, rows))
        one = Table(Book((), (), ()), ("number",) * 4, ())
        self.assertEqual((one.book, one.sorts, one.rows), (Book((), (), ()), ("number",) * 4, ()))

    def test_equal_if_all_three_are(self):
        rows = (("a", (A,), None), ("b", (ptr(A),), EVEN))
        one = Table(DESK, KIND, rows)
        self.assertTrue(one == Table(DESK, KIND, tuple(list(rows))))
        self.assertFalse(one != Table(DESK, KIND, rows))
        others = [Table(Book(DESK.lists, DESK.heads, DESK.claims[:1]), KIND, rows), Table(DESK, KIND, rows[::-1]),
                  Table(DESK, KIND, rows[:1]), Table(DESK, KIND, (("a", (B,), None), rows[1])),
                  Table(DESK, KIND, (("c", (A,), None), rows[1])), Table(DESK, KIND, (rows[0], ("b", (ptr(A),), ODD)))]
        for other in others + STRANGE + [(DESK, KIND, rows), DESK]:
            self.assertFalse(one == other)
            self.assertTrue(one != other)
        self.assertFalse(Table(DESK, KIND, ()) == Table(DESK, TWO, ()))

    def test_sorts(self):
        for sorts in [KIND, ("number",), ("flag",), ("size", "flag", "kind", "number"), ("flag",) * 4]:
            self.assertEqual(Table(DESK, sorts, ()).sorts, sorts)
        for sorts in [(), ("kind",) * 5, ["kind"], "kind", ("other",), ("small",), ("int",), ("kind", None),
                      (("kind",),), {"kind": 1}, ("kind", "kinds"), chain(300, INT)] + STRANGE:
            for rows in ((), None, (None,), (("a", (A,), None),)):
                self.wrong("sorts", sorts, rows)
        self.wrong("sorts", ("flag",), (), Book((), (), ()))

    def test_rows(self):
        rows = tuple((label, (n,), None) for n, label in enumerate("abcdefghijk"))
        self.assertEqual(Table(DESK, ("number",), rows[:10]).rows, rows[:10])
        self.wrong("rows", ("number",), rows)
        self.wrong("rows", ("number",), (None,) * 11)
        for thing in [list(rows[:2]), {}, "rows", None, rows[0] * 4, set, ("a",) * 11] + STRANGE:
            if type(thing) is not tuple or len(thing) > 10:
                self.wrong("rows", ("number",), thing)
            elif thing:
                self.wrong(0, ("number",), thing)

    def test_no_such_triple(self):
        for row in [("a", (A,)), ("a", (A,), None, None), ["a", (A,), None], (("a", A), None), ("a", A, None),
                    ("a", [A], None), ("a", (), None), ("a", (A, A), None), ("a", (3,), None), ("a", ("yes",), None),
                    ("a", (("ptr",),), None), ("a", (True,), None), ("a", (["int"],), None), ((A,), "a", None)]:
            self.wrong_row(KIND, row)
        for thing in STRANGE:
            self.wrong_row(KIND, thing)
            if thing != (INT,):
                self.wrong_row(KIND, ("a", thing, None))
            self.wrong_row(("number", "kind"), ("a", (A, thing), None) if thing != INT else None)
            if thing is not None:
                self.wrong_row(KIND, ("a", (A,), thing))
                self.wrong_row(KIND, ("a", (A,), both(EVEN, thing)))
                self.wrong_row(KIND, ("a", (A,), (thing, EVEN, EVEN)))
                self.wrong_row(KIND, ("a", (A,), ("claim", "even", thing)) if type(thing) is not int or thing else 0)
            self.wrong_row(KIND, ("a", (A,), ("claim", thing, 0)))

    def test_labels(self):
        for label in ("a", "z", "abcdefgh", "kind", "none", "many"):
            self.assertEqual(Table(DESK, KIND, ((label, (A,), None),)).rows[0][0], label)
        for label in ["", "abcdefghi", "A", "a1", "a b", "a-", "\u00e9", "a\n", b"a", ("a",)]:
            self.wrong_row(KIND, (label, (A,), None))
        for thing in STRANGE:
            if thing not in ("int", "yes", "kind"):
                self.wrong_row(KIND, (thing, (A,), None))

    def test_one_label_twice(self):
        self.wrong(1, KIND, (("a", (A,), None), ("a", (ptr(A),), None)))
        self.wrong(2, KIND, (("a", (A,), None), ("b", (INT,), None), ("a", (ptr(A),), None), ("b", (A,), EVEN)))
        self.wrong(2, KIND, (("a", (A,), None), ("b", (INT,), None), ("b", (ptr(A),), EVEN), ("a", (A,), EVEN)))

    def test_parts(self):
        for sorts, patterns, many in [
            (KIND, (wide(19),), 19), (KIND, (tri(wide(5), wide(7), wide(7)),), 20), (TWO, (wide(19), A), 20),
            (TWO, (wide(17), ptr(ptr(A))), 20), (("kind", "number"), (wide(19), 3), 20),
            (("flag", "kind"), (A, wide(19)), 20),
        ]:
            self.assertEqual(sum(map(count, patterns)), many)
            self.assertEqual(Table(DESK, sorts, (("a", patterns, None),)).rows[0][1], patterns)
        for sorts, patterns in [
            (KIND, (tri(wide(7), wide(7), ptr(wide(5))),)), (KIND, (wide(21),)), (TWO, (wide(19), ptr(A))),
            (TWO, (wide(17), ptr(ptr(ptr(A))))),
            (("kind", "kind", "number"), (wide(19), A, 3)), (("kind",) * 3, (wide(7),) * 3),
            (("flag", "kind", "flag"), ("yes", wide(19), "no")), (KIND, (wide(99999),)),
        ]:
            self.wrong(0, sorts, (("a", patterns, None),))

    def test_depth(self):
        deep = ("opt", "yes", 3, ptr(("opt", B, C, ptr(A))))
        for thing in (chain(4, INT), chain(4, A), pair(A, chain(3, INT)), deep):
            self.assertEqual(Table(DESK, KIND, (("a", (thing,), None),)).rows[0][1], (thing,))
            self.assertEqual(Table(DESK, TWO, (("a", (INT, thing), None),)).rows[0][1], (INT, thing))
            self.wrong_row(KIND, ("a", (ptr(thing),), None))
            self.wrong_row(TWO, ("a", (INT, ptr(thing)), None))
        for deep in (6, 40, 200, 20000):
            self.wrong_row(KIND, ("a", (chain(deep - 1, INT),), None))
        self.wrong_row(KIND, ("a", (ptr(deep),), None))

    def test_unknowns(self):
        Table(DESK, KIND, (("a", (("?", 19),), claim("even", 19)),))
        for n in (20, 21, 999, 1000, -1, True):
            self.wrong_row(KIND, ("a", (("?", n),), None))
            self.wrong_row(KIND, ("a", (ptr(pair(A, ("?", n))),), None))
        self.wrong_row(("kind", "number"), ("a", (A, A), None))
        self.wrong_row(KIND, ("a", (("opt", A, A, B),), None))

    def test_new_kinds(self):
        for thing in (new(0), ptr(new(0)), pair(A, new(7)), ("opt", "yes", 3, new(1))):
            self.wrong_row(KIND, ("a", (thing,), None))
            self.wrong_row(("number", "kind"), ("a", (B, thing), None))

    def test_demands(self):
        patterns = (("opt", A, B, C), ("?", 3))
        right = [None, claim("even", 2), claim("bad", 3), both(claim("even", 2), claim("even", 3)),
                 either(claim("even", 2), both(claim("odd", 3), claim("even", 2)))]
        deep = claim("even", 2)
        for _ in range(3):
            deep = both(claim("odd", 3), deep)
        for demand in right + [deep]:
            self.assertEqual(Table(DESK, TWO, (("a", patterns, demand),)).rows[0][2], demand)
        for demand in [both(claim("odd", 3), deep), both(deep, claim("odd", 3)), either(deep, deep), claim("even", 0),
                       claim("even", 1), claim("even", 4), claim("even", -1), claim("even", True), claim("small", 2),
                       claim("Even", 2), claim("flag", 2), both(None, None), both(claim("even", 2), None), (),
                       ("claim",), ("claim", "even"), ("claim", "even", 2, 2), ["claim", "even", 2], "claim",
                       ("and", deep, deep), both(claim("even", 2), claim("even", 1)), ("both", deep),
                       ("both", deep, deep, deep), False, ("claim", "even", "2"), ("claim", "even", C),
                       ("both", [deep], deep), ("Claim", "even", 2)]:
            self.wrong_row(TWO, ("a", patterns, demand))
        self.wrong_row(("flag", "number"), ("a", (A, B), EVEN))
        self.wrong_row(KIND, ("a", (INT,), EVEN))
        long = EVEN
        for _ in range(10000):
            long = both(long, EVEN)
        self.wrong_row(KIND, ("a", (A,), long))

    def test_demands_judged_at_any_place(self):
        right = both(either(claim("even", 0), claim("odd", 1)), claim("good", 0))
        names = {"even", "odd", "good", "bad"}

        def fits(thing, deep):
            if type(thing) is not tuple or len(thing) != 3 or deep > 4:
                return False
            if thing[0] == "claim":
                return type(thing[1]) is str and thing[1] in names and type(thing[2]) is int and thing[2] in (0, 1)
            return thing[0] in ("both", "either") and fits(thing[1], deep + 1) and fits(thing[2], deep + 1)

        for demand in other_things(right, [None, True, 0, 1, 2, -1, "both", "claim", "even", [], (), EVEN]):
            if demand is None or fits(demand, 1):
                self.assertEqual(Table(DESK, TWO, (("a", (A, B), demand),)).rows[0][2], demand)
            else:
                self.wrong(0, TWO, (("a", (A, B), demand),))

    def test_patterns_and_demand_like_those_of_an_earlier_row(self):
        patterns, again = (pair(A, B), C), (pair(("?", 7), ("?", 3)), ("?", 0))
        one = both(claim("even", 0), either(claim("odd", 1), claim("even", 2)))
        other = either(both(claim("odd", 3), claim("even", 7)), both(claim("even", 0), claim("even", 7)))
        for demand, like in [(None, None), (claim("even", 0), claim("even", 7)), (claim("even", 2), claim("even", 0)),
                             (one, other), (both(claim("odd", 1), claim("odd", 1)), claim("odd", 3)),
                             (claim("odd", 2), either(claim("odd", 0), both(claim("odd", 0), claim("bad", 3))))]:
            self.wrong(1, TWO, (("a", patterns, demand), ("b", again, like)))
            self.wrong(1, TWO, (("b", again, like), ("a", patterns, demand)))
            self.wrong(2, TWO, (("b", again, like), ("x", (INT, INT), None), ("a", patterns, demand), None))
        for demand, unlike in [(None, claim("even", 7)), (claim("even", 0), claim("even", 0)),
                               (claim("even", 0), claim("even", 3)), (claim("even", 0), claim("odd", 7)),
                               (one, either(claim("even", 7), claim("odd", 3))), (one, None),
                               (claim("even", 0), both(claim("even", 7), claim("odd", 7)))]:
            rows = (("a", patterns, demand), ("b", again, unlike))
            self.assertEqual(Table(DESK, TWO, rows).rows, rows)
            self.assertEqual(Table(DESK, TWO, rows[::-1]).rows, rows[::-1])
        for two in itertools.permutations([(A, B), (A, A), (INT, A), (A, INT), (ptr(A), A), (ptr(A), B)], 2):
            rows = (("a", two[0], None), ("b", two[1], None))
            self.assertEqual(Table(DESK, TWO, rows).rows, rows)

    def test_two_parts_wrong_at_once(self):
        self.wrong("sorts", ("other",), None)
        self.wrong("sorts", None, (None,) * 11)
        self.wrong("sorts", None, cases_2001())
        self.wrong("rows", KIND, (("a", (A,), 3),) * 11)
        self.wrong(1, KIND, (("a", (A,), None), ("a", (3,), None), ("b", (3,), None)))
        self.wrong(2, KIND, (("a", (A,), None), ("b", (ptr(A),), None), ("b", (A,), None), ("c", None, None)))

    def test_meets(self):
        self.assertEqual(len(meets(Table(DESK, SORTS_OF_PLACES, MEETS_200))), 200)
        self.wrong("many", SORTS_OF_PLACES, MEETS_201)
        self.wrong("many", SORTS_OF_PLACES, MEETS_201[::-1])
        self.assertEqual(len(meets(Table(DESK, SORTS_OF_PLACES, MEETS_201[1:]))), 137)
        self.wrong(10 - 1, SORTS_OF_PLACES, MEETS_201[:9] + (None,))
        self.wrong(9, SORTS_OF_PLACES, MEETS_201[:9] + (("a",) + MEETS_201[9][1:],))

    def test_cases(self):
        one = Table(DESK, SORTS_OF_CASES, cases_2000())
        self.assertEqual(len(cases(one)), 2000)
        self.wrong("many", SORTS_OF_CASES, cases_2001())
        self.wrong("many", SORTS_OF_CASES, cases_2001()[::-1])
        self.wrong(9, SORTS_OF_CASES, cases_2000() + (("z", (A, B, B), None),))

    def test_cases_by_words_alone(self):
        # Each row about one place of four words keeps the three others open: 256 + 4 * 64 + 6 * 16 + 4 * 4 + 1.
        book = Book(tuple((name, tuple(name + end for end in "abcd")) for name in "wxyz"), (), ())
        sorts = tuple("wxyz")
        rows = [(name, tuple(name + "a" if name == sort else ("?", k) for k, sort in enumerate(sorts)), None)
                for name in sorts]
        self.assertEqual(len(cases(Table(book, sorts, tuple(rows)))), 625)
        more = tuple((row[0] + "b", tuple(thing[0] + "b" if type(thing[0]) is str and len(thing) == 2 and
                                          thing[0] != "?" else thing for thing in row[1]), None) for row in rows)
        self.assertEqual(len(cases(Table(book, sorts, tuple(rows) + more[:2]))), 900)
        self.assertEqual(len(cases(Table(book, sorts, tuple(rows) + more[:4]))), 1296)

    def test_words_beyond_all_counting(self):
        book = Book((("way", ("up", "down", "left", "right")),), (("h", ("way",) * 3), ("t", ("kind",) * 3)), ())
        heads = [("h", *[("?", 3 * k + n) for n in range(3)]) for k in range(4)]
        patterns = (("t", *heads[:3]), heads[3], ("?", 12), ("?", 13))
        self.assertEqual(sum(map(count, patterns)), 19)
        self.wrong("many", ("kind", "kind", "way", "way"), (("a", patterns, None),), book)
        few = (("t", *heads[:1], ("?", 18), ("?", 19)), ("?", 17), "up", ("?", 13))
        one = Table(book, ("kind", "kind", "way", "way"), (("a", few, None),))
        self.assertEqual(len(cases(one)), 4 ** 2 + 4 ** 4)

    def test_facts_beyond_all_counting(self):
        rows = []
        patterns = (tri(A, B, C), tri(*[("?", n) for n in (3, 4, 5)]), pair(("?", 6), ("?", 7)))
        for k, name in enumerate(DESK.claims):
            twos = [either(claim(name, n), claim(name, n + 1)) for n in (0, 2, 4, 6)]
            demand = both(both(twos[0], twos[1]), both(twos[2], twos[3]))
            rows.append((LETTERS[k], patterns, demand))
        self.assertEqual(len(cases(Table(DESK, ("kind",) * 3, tuple(rows[:1])))), 257)
        self.wrong("many", ("kind",) * 3, tuple(rows[:2]))
        self.wrong("many", ("kind",) * 3, tuple(rows))

    def test_parts_of_a_meet(self):
        self.assertEqual(sum(map(count, slow_meet(*PARTS_200))), 200)
        self.assertEqual(sum(map(count, slow_meet(*PARTS_201))), 201)
        one = table(("kind",) * 4, *PARTS_200)
        self.assertEqual(max(sum(map(count, bundle)) for bundle in meets(one)), 200)
        for order in (1, -1):
            rows = tuple((label, patterns, None) for label, patterns in zip("ab", PARTS_201[::order]))
            self.wrong("many", ("kind",) * 4, rows)
            self.wrong(2, ("kind",) * 4, rows + (("a", (A, A, A, A), None),))
        # A third row that neither has an instance in common with does not make the meet of both less great.
        self.wrong("many", ("kind",) * 4, rows + (("c", (INT, INT, INT, INT), None),))

    def test_meets_that_grow_beyond_all_counting(self):
        places = ("kind",) * 4
        rows = (("a", (tri(A, A, A), A, B, C), None), ("b", (A, tri(B, B, B), B, C), None),
                ("c", (A, B, tri(C, C, C), C), None), ("d", (A, B, C, tri(tri(INT, INT, INT), INT, INT)), None))
        self.wrong("many", places, rows)

    def test_failing_changes_nothing(self):
        one = Table(DESK, KIND, (("a", (A,), None),))
        for sorts, rows in ((None, ()), (TWO, None), (TWO, (None,)), (SORTS_OF_CASES, cases_2001())):
            with self.assertRaises(BadTable):
                one.__init__(DESK, sorts, rows)
        self.assertEqual(one, Table(DESK, KIND, (("a", (A,), None),)))

    def test_one_part_of_a_row_otherwise(self):
        right = (("a", (ptr(A), 3), claim("even", 0)), ("b", (INT, B), None))
        self.assertEqual(Table(DESK, ("kind", "number"), right).rows, right)
        for rows in other_things(right, STRANGE[:12] + [A, "a", (ptr(A), 3)]):
            try:
                told = Table(DESK, ("kind", "number"), rows)
                self.assertEqual(told.rows, rows)
            except BadTable as error:
                self.assertIn(error.part, ["rows", 0, 1, 2], rows)


class NearestTest(unittest.TestCase):
    def setUp(self):
        self.one = table(TWO, (A, B), (ptr(A), B), (A, ptr(B)), (ptr(A), ptr(B)), [(ptr(INT), A), EVEN],
                         [(A, A), both(EVEN, ODD)], [(A, A), EVEN])

    def test_meeting(self):
        two_ptrs = (ptr(INT), ptr(INT))
        self.assertEqual(meeting(self.one, (INT, INT), ()), (0,))
        self.assertEqual(meeting(self.one, (new(0), ptr(new(0))), ()), (0, 2))
        self.assertEqual(meeting(self.one, two_ptrs, ()), (0, 1, 2, 3))
        self.assertEqual(meeting(self.one, two_ptrs, (("even", ptr(INT)),)), (0, 1, 2, 3, 4, 6))
        self.assertEqual(meeting(self.one, two_ptrs, (("even", INT), ("odd", ptr(INT)))), (0, 1, 2, 3))
        self.assertEqual(meeting(self.one, two_ptrs, (("odd", ptr(INT)), ("even", ptr(INT)))), (0, 1, 2, 3, 4, 5, 6))
        self.assertEqual(meeting(Table(DESK, KIND, ()), (INT,), ()), ())

    def test_choices(self):
        for use, facts, told in [
            ((INT, INT), (), ("row", "a")), ((ptr(INT), INT), (), ("row", "b")), ((INT, ptr(INT)), (), ("row", "c")),
            ((ptr(INT), ptr(INT)), (), ("row", "d")), ((ptr(INT), INT), (("even", INT),), ("row", "e")),
            ((ptr(INT), ptr(INT)), (("even", ptr(INT)),), ("many", ("d", "e", "g"))),
            ((INT, INT), (("even", INT),), ("row", "g")), ((INT, INT), (("even", INT), ("odd", INT)), ("row", "f")),
            ((INT, INT), (("odd", INT), ("even", INT), ("odd", INT)), ("row", "f")),
            ((ptr(new(3)), ptr(new(3))), (("even", ptr(new(3))),), ("many", ("d", "g"))),
        ]:
            self.assertEqual(nearest(self.one, use, facts), told, (use, facts))
            self.assertEqual(nearest(self.one, use, facts[::-1] + facts), told, (use, facts))

    def test_none(self):
        one = table(TWO, (ptr(A), A), [(A, A), EVEN])
        self.assertEqual(nearest(one, (INT, INT), ()), ("none",))
        self.assertEqual(nearest(one, (INT, INT), (("even", new(0)),)), ("none",))
        self.assertEqual(nearest(one, (INT, INT), (("even", INT),)), ("row", "b"))
        self.assertEqual(nearest(Table(DESK, ("flag",), ()), ("yes",), ()), ("none",))

    def test_demands_alone(self):
        one = table(KIND, [(A,), EVEN], [(B,), claim("odd", 1)], [(C,), both(claim("odd", 2), claim("even", 2))], (A,))
        self.assertEqual(nearest(one, (INT,), ()), ("row", "d"))
        self.assertEqual(nearest(one, (INT,), (("even", INT),)), ("row", "a"))
        self.assertEqual(nearest(one, (INT,), (("odd", INT),)), ("row", "b"))
        self.assertEqual(nearest(one, (INT,), (("odd", INT), ("even", INT))), ("row", "c"))
        one = table(KIND, [(A,), EVEN], [(B,), claim("odd", 1)], (A,))
        self.assertEqual(nearest(one, (INT,), (("odd", INT), ("even", INT))), ("many", ("a", "b")))

    def test_a_demand_does_not_make_nearer_where_patterns_do(self):
        one = table(KIND, [(A,), both(EVEN, ODD)], (ptr(A),))
        facts = (("even", ptr(INT)), ("odd", ptr(INT)))
        self.assertEqual(meeting(one, (ptr(INT),), facts), (0, 1))
        self.assertEqual(nearest(one, (ptr(INT),), facts), ("row", "b"))
        self.assertEqual(nearest(table(KIND, (ptr(A),), [(A,), EVEN]), (ptr(INT),), facts), ("row", "a"))
        one = table(KIND, [(ptr(A),), EVEN], (A,))
        self.assertEqual(nearest(one, (ptr(INT),), facts), ("row", "b"))
        self.assertEqual(nearest(one, (ptr(new(1)),), (("even", new(1)),)), ("row", "a"))

    def test_words_and_numbers(self):
        one = table(("flag", "number"), (A, B), ("yes", B), (A, 3), ("yes", 3), ("no", -1))
        for use, told in [(("no", 4), "a"), (("yes", 4), "b"), (("no", 3), "c"), (("yes", 3), "d"), (("no", -1), "e"),
                          (("yes", -1), "b"), (("no", 1), "a"), (("no", 10 ** 20), "a")]:
            self.assertEqual(nearest(one, use, ()), ("row", told))

    def test_rows_turned_about(self):
        chance = random.Random(31)
        for _ in range(60):
            sorts = chance.choice(SORTS)
            one = some_table(chance, sorts, 5)
            rows = list(one.rows)
            chance.shuffle(rows)
            other = Table(DESK, sorts, tuple(rows))
            use = some_use(chance, one)
            facts = some_facts(chance, use)
            told, turned = nearest(one, use, facts), nearest(other, use, facts)
            if told[0] == "many":
                self.assertEqual(sorted(told[1]), sorted(turned[1]))
                self.assertEqual([row[0] for row in rows if row[0] in told[1]], list(turned[1]))
            else:
                self.assertEqual(told, turned)

    def test_random(self):
        chance = random.Random(32)
        seen = set()
        for _ in range(150):
            sorts = chance.choice(SORTS)
            one = some_table(chance, sorts, 6)
            for _ in range(6):
                use = some_use(chance, one)
                facts = some_facts(chance, use)
                told = meeting(one, use, facts)
                self.assertEqual(told, tuple(k for k, row in enumerate(one.rows) if slow_meets_row(row, use, facts)))
                self.assertEqual(nearest(one, use, facts), slow_choice(one.rows, use, facts))
                seen.add(nearest(one, use, facts)[0])
        self.assertEqual(seen, {"row", "none", "many"})

    def test_no_use(self):
        one = table(("kind", "flag"), (A, B))
        right = (ptr(INT), "yes")
        for call in (meeting, nearest):
            for use in STRANGE + [(A, "yes"), (INT, A), (INT, 3), (INT,), (INT, "yes", "yes"), [INT, "yes"],
                                  (ptr(A), "yes"), (INT, "small"), (new(True), "yes"), ("yes", INT),
                                  (chain(300, 3), "no")]:
                for facts in ((), None, [], (("even", A),)):
                    with self.assertRaises(NoUse):
                        shallow(call, one, use, facts)
            for use in other_things(right, STRANGE[:20]):
                if slow_bundle(DESK, ("kind", "flag"), use) and "?" not in repr(use):
                    self.assertIsNotNone(call(one, use, ()))
                else:
                    with self.assertRaises(NoUse):
                        call(one, use, ())

    def test_no_facts(self):
        one = table(KIND, (A,), [(A,), EVEN])
        for call in (meeting, nearest):
            for facts in STRANGE + [[("even", INT)], (("even", A),), (("small", INT),), (("even", 3),), ("even", INT),
                                    (("even", INT),) * 201, (("even", INT),) * 200 + (None,),
                                    (("even", chain(300, 3)),)]:
                if facts != ():
                    with self.assertRaises(NoFacts):
                        shallow(call, one, (INT,), facts)
            self.assertIsNotNone(call(one, (INT,), (("even", INT),) * 200))

    def test_deep_and_wide(self):
        one = table(TWO, [(A, A), EVEN], [(ptr(A), ptr(B)), either(EVEN, claim("even", 1))], (A, B))
        deep = chain(199, INT)
        self.assertEqual(shallow(nearest, one, (deep, chain(199, INT)), ()), ("row", "c"))
        self.assertEqual(shallow(nearest, one, (deep, deep), (("even", chain(199, INT)),)), ("row", "a"))
        facts = tuple(("even", chain(198, new(n))) for n in range(150)) + (("even", chain(198, INT)),)
        self.assertEqual(shallow(nearest, one, (deep, chain(199, new(0))), facts), ("row", "b"))
        self.assertEqual(shallow(nearest, one, (wide(999), wide(999)), (("even", wide(999)),)), ("row", "a"))
        self.assertEqual(shallow(nearest, one, (wide(1999), wide(1997)), (("even", wide(1999)),)), ("row", "c"))


class NearerTest(unittest.TestCase):
    def test_in_every_relation(self):
        one = table(TWO, (A, B), (A, A), (ptr(A), B), [(A, B), EVEN], [(B, A), EVEN],
                    [(A, B), both(EVEN, claim("even", 1))], [(A, A), ODD], (INT, INT))
        told = [[nearer(one, a, b) for b in range(8)] for a in range(8)]
        nearer_ones = {(a, b) for a in range(8) for b in range(8) if told[a][b]}
        self.assertEqual(nearer_ones, {(1, 0), (2, 0), (3, 0), (4, 0), (5, 0), (6, 0), (7, 0), (1, 3), (1, 4), (1, 5),
                                       (2, 3), (2, 4), (2, 5), (5, 3), (5, 4), (6, 1), (6, 3), (6, 4), (6, 5),
                                       (7, 1), (7, 3), (7, 4), (7, 5), (7, 6)})
        self.assertTrue(all(type(flag) is bool for row in told for flag in row))

    def test_demands_with_other_numbers_of_unknowns(self):
        one = table(TWO, [(pair(A, B), C), both(claim("even", 0), claim("odd", 2))],
                    [(pair(("?", 5), A), ("?", 9)), claim("odd", 9)], [(pair(C, B), A), claim("odd", 2)],
                    [(pair(C, B), A), None])
        told = {(a, b) for a in range(4) for b in range(4) if nearer(one, a, b)}
        self.assertEqual(told, {(0, 1), (0, 3), (1, 3), (2, 3)})

    def test_random(self):
        chance = random.Random(33)
        for _ in range(150):
            one = some_table(chance, chance.choice(SORTS), 6)
            for a, b in itertools.product(range(len(one.rows)), repeat=2):
                self.assertIs(nearer(one, a, b), slow_nearer(one.rows[a], one.rows[b]))

    def test_called_otherwise(self):
        chance = random.Random(34)
        for _ in range(60):
            one = some_table(chance, KIND, 5)
            names = {n: ("?", 19 - n) for n in range(20)}
            rows = []
            for label, patterns, demand in one.rows:
                rows.append((label, tuple(renamed(thing, names) for thing in patterns), called(demand, names)))
            other = Table(DESK, KIND, tuple(rows))
            for a, b in itertools.product(range(len(rows)), repeat=2):
                self.assertIs(nearer(one, a, b), nearer(other, a, b))

    def test_no_row(self):
        one = table(KIND, (A,), (ptr(A),))
        self.assertIs(nearer(one, 1, 0), True)
        self.assertIs(nearer(one, 0, 1), False)
        for thing in STRANGE + [2, 3, -2, 10 ** 20, "0", (0,), [0]]:
            if type(thing) is int and thing in (0, 1):
                continue
            for rows in ((thing, 0), (0, thing), (thing, thing), (1, thing)):
                with self.assertRaises(NoRow):
                    nearer(one, *rows)
        with self.assertRaises(NoRow):
            nearer(Table(DESK, KIND, ()), 0, 0)
