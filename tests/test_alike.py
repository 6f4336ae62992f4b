"""[5.1]: tables that choose alike, and those that do not."""

import random
import unittest

from nearestkinds.alike import is_unlike, unlike
from nearestkinds.cases import cases
from nearestkinds.errors import BadTable, OtherPlaces, TooMany
from nearestkinds.tables import Table, nearest
from nearestkinds.things import Book
from tests.great import MEETS_200, SORTS_OF_CASES, SORTS_OF_PLACES, cases_2000
from tests.samples import STRANGE, chain, shallow
from tests.slow import (A, B, C, DESK, INT, KIND, SORTS, agree, both, claim, either, is_pair, new, other_things, pair,
                        ptr, slow_cases, slow_choice, slow_meets, some_demand, some_facts, some_table, some_use, table,
                        text, top)

EVEN, ODD = claim("even", 0), claim("odd", 0)
TWO = ("kind", "kind")


def named(one, labels):
    """The table with other labels."""
    return Table(one.book, one.sorts, tuple((label,) + row[1:] for label, row in zip(labels, one.rows)))


def cases_of_both(one, other):
    """The cases of the meets of the one table and of those of the other, each meet once."""
    found = {text(each): each for rows in (one.rows, other.rows) for each in slow_meets(top(one.sorts), rows)}
    asking = [row[1:] for row in one.rows + other.rows]
    return slow_cases(one.book, one.sorts, [found[each] for each in sorted(found)], asking)


class UnlikeTest(unittest.TestCase):
    def same(self, one, other):
        self.assertIsNone(unlike(one, other))
        self.assertIsNone(unlike(other, one))

    def other(self, one, other, case=None):
        """Two tables do not agree; perhaps a case shows it."""
        for two in ((one, other), (other, one)):
            told = unlike(*two)
            self.assertFalse(agree(*[slow_choice(each.rows, *told) for each in two]))
            self.assertEqual(unlike(*two), told)
            for thing in (told, case or told):
                self.assertIs(is_unlike(*two, thing), True, thing)

    def test_that_agree(self):
        one = table(TWO, (A, B), (ptr(A), B), [(ptr(A), INT), claim("even", 0)])
        self.same(one, one)
        self.same(one, Table(DESK, TWO, one.rows[::-1]))
        self.same(Table(DESK, TWO, ()), Table(DESK, TWO, ()))
        self.same(table(KIND, [(A,), EVEN]), table(KIND, [(("?", 7),), both(claim("even", 7), claim("even", 7))]))
        # A dead row plays no part, neither does one that says what another one of its label would.
        rows = (("x", ("yes", A), None), ("y", ("no", A), None))
        self.same(Table(DESK, ("flag", "kind"), rows), Table(DESK, ("flag", "kind"), rows + (("z", (A, B), None),)))
        self.same(Table(DESK, ("flag",), (("x", (A,), None),)), Table(DESK, ("flag",), (("x", (B,), None),)))

    def test_both_many_at_one_use(self):
        one, other = table(TWO, (INT, A), (A, INT)), table(TWO, (A, INT), (INT, A))
        self.other(one, other, ((INT, ptr(INT)), ()))
        self.assertIs(is_unlike(one, other, ((INT, INT), ())), False)
        self.same(one, named(other, "ba"))
        self.same(one, Table(DESK, TWO, named(other, "ba").rows[::-1]))
        three = Table(DESK, TWO, (("c", (INT, INT), None),) + one.rows)
        self.other(one, three, ((INT, INT), ()))
        one, other = table(KIND, [(A,), EVEN], [(A,), ODD]), table(KIND, [(A,), EVEN], [(A,), claim("good", 0)])
        self.assertIs(is_unlike(one, other, ((INT,), (("even", INT), ("odd", INT), ("good", INT)))), False)
        self.other(one, other, ((INT,), (("even", INT), ("good", INT))))

    def test_labels(self):
        one = table(KIND, (A,), (INT,))
        self.other(one, named(one, "ba"), ((INT,), ()))
        self.other(one, named(one, "ac"), ((INT,), ()))
        self.assertIs(is_unlike(one, named(one, "ac"), ((ptr(INT),), ())), False)
        self.other(one, Table(DESK, KIND, ()), ((new(5),), ()))

    def test_that_disagree_at_one_case(self):
        one = table(("size", "flag"), (A, B))
        other = Table(DESK, ("size", "flag"), one.rows + (("x", ("middle", "no"), None),))
        self.assertEqual(unlike(one, other), (("middle", "no"), ()))
        self.other(one, other, (("middle", "no"), ()))
        self.assertIs(is_unlike(one, other, (("middle", "yes"), ())), False)
        one = table(("number", "number"), (A, B), (A, A))
        other = Table(DESK, ("number", "number"), one.rows + (("x", (4, 4), None),))
        self.assertEqual(unlike(one, other), ((4, 4), ()))
        self.assertIs(is_unlike(one, other, ((3, 3), ())), False)
        one = table(KIND, [(A,), both(EVEN, ODD)])
        other = table(KIND, [(A,), both(both(EVEN, ODD), claim("good", 0))])
        self.assertEqual(unlike(one, other), ((new(0),), (("even", new(0)), ("odd", new(0)))))
        one = table(KIND, (A,), (ptr(A),))
        self.other(one, Table(DESK, KIND, one.rows + (("x", (ptr(ptr(INT)),), None),)), ((ptr(ptr(INT)),), ()))

    def test_facts_that_one_of_both_asks(self):
        self.other(table(KIND, [(A,), EVEN]), table(KIND, (A,)), ((INT,), ()))
        self.other(table(KIND, [(A,), EVEN]), table(KIND, [(A,), ODD]), ((INT,), (("odd", INT),)))
        one = table(KIND, [(ptr(A),), EVEN], [(ptr(A),), None])
        other = Table(DESK, KIND, (("a", (ptr(A),), either(EVEN, ODD)), ("b", (ptr(A),), None)))
        self.other(one, other, ((ptr(new(3)),), (("odd", new(3)),)))
        self.same(one, Table(DESK, KIND, (("a", (ptr(A),), both(EVEN, either(ODD, EVEN))), ("b", (ptr(B),), None))))

    def test_numbers_of_both(self):
        # A number that stands in a row of the other table is no other number's case.
        one, other = table(("number",), (A,)), table(("number",), (A,), (0,), (1,))
        self.other(one, other, ((0,), ()))
        self.same(other, Table(DESK, ("number",), other.rows[::-1]))
        self.other(table(("number",), (0,)), table(("number",), (1,)), ((1,), ()))
        self.other(table(("number",), (A,), (0,)), named(table(("number",), (A,), (1,)), "ab"), ((0,), ()))

    def test_other_places(self):
        one = table(KIND, (A,))
        book = Book(DESK.lists, DESK.heads, DESK.claims)
        self.same(one, Table(book, KIND, one.rows))
        for other in [Table(Book(DESK.lists, DESK.heads, ()), KIND, one.rows), Table(DESK, TWO, ()), table(("number",)),
                      Table(Book(DESK.lists, DESK.heads[::-1], DESK.claims), KIND, one.rows),
                      Table(Book(DESK.lists, DESK.heads, ()), TWO, ()), table(("kind", "flag"), (A, B))]:
            for two in ((one, other), (other, one)):
                with self.assertRaises(OtherPlaces):
                    unlike(*two)
                for thing in (None, (), ((INT,), ()), ((INT, INT), ())):
                    with self.assertRaises(OtherPlaces):
                        is_unlike(*two, thing)
        with self.assertRaises(OtherPlaces):
            unlike(table(("flag", "kind")), table(("kind", "flag")))

    def test_other_places_ahead_of_too_many(self):
        one, other = Table(DESK, SORTS_OF_CASES, cases_2000()), Table(DESK, SORTS_OF_PLACES, MEETS_200)
        with self.assertRaises(OtherPlaces):
            unlike(one, other)

    def test_just_two_thousand_cases(self):
        one = Table(DESK, SORTS_OF_CASES, cases_2000())
        self.same(one, one)
        self.same(one, Table(DESK, SORTS_OF_CASES, one.rows[::-1]))
        self.assertEqual(len(cases_of_both(one, Table(DESK, SORTS_OF_CASES, one.rows[:7]))), 2000)
        self.other(one, Table(DESK, SORTS_OF_CASES, one.rows[:7]))

    def test_more_cases(self):
        one = Table(DESK, SORTS_OF_CASES, cases_2000())
        more = [
            ("x", ("yes", A, 77), None),  # one meet more, of one case
            ("x", (A, B, C), claim("good", 1)),  # one more claim where all is open
            ("x", (A, INT, 77), None),
        ]
        for row in more:
            other = Table(DESK, SORTS_OF_CASES, (row,))
            self.assertLess(len(cases(other)), 10)
            for two in ((one, other), (other, one)):
                with self.assertRaises(TooMany) as told:
                    unlike(*two)
                self.assertEqual(told.exception.most, 2000)
                # Judging needs no cases.
                case = (("yes", INT, 77), (("good", INT),))
                self.assertIs(is_unlike(*two, case), not agree(*[slow_choice(each.rows, *case) for each in two]))

    def test_meets_of_rows_of_both_together_are_not_counted(self):
        # 6 rows each, 64 meets; all twelve together would have 4096.
        def places(k):
            things = [INT if n == k else ("?", n) for n in range(12)]
            return tuple(("tri", *things[n:n + 3]) for n in range(0, 12, 3))

        one = table(("kind",) * 4, *[places(k) for k in range(6)])
        other = table(("kind",) * 4, *[places(k) for k in range(6, 12)])
        self.assertEqual((len(cases(one)), len(cases(other))), (64, 64))
        self.other(one, other)

    def test_judged(self):
        one = table(("flag", "kind"), (A, B), [("yes", A), EVEN])
        other = table(("flag", "kind"), (A, B))
        right = (("yes", ptr(INT)), (("even", ptr(INT)),))
        self.assertIs(is_unlike(one, other, right), True)
        for thing in [((), ()), (("yes", ptr(INT)), ()), (("yes", ptr(INT)), (("even", INT),)), list(right), right[0],
                      (("no", ptr(INT)), right[1]), (list(right[0]), right[1]), (right[0], list(right[1])),
                      (("yes", ptr(A)), right[1]), (right[0], right[1] + (None,)), right + right, None,
                      (("yes", ("~", True)), (("even", ("~", True)),)), (("yes", 3), (("even", 3),))]:
            self.assertIs(is_unlike(one, other, thing), False)
        for thing in STRANGE:
            self.assertIs(is_unlike(one, other, thing), False)
            self.assertIs(is_unlike(one, other, (right[0], thing)), False)
            self.assertIs(is_unlike(one, other, (thing, right[1])), False)
        for thing in other_things(right, [None, True, 3, "even", [], (), A]):
            told = is_pair(one, thing) and not agree(slow_choice(one.rows, *thing), slow_choice(other.rows, *thing))
            self.assertIs(is_unlike(one, other, thing), told)
        deep = chain(198, INT)
        self.assertIs(shallow(is_unlike, one, other, (("yes", deep), (("even", chain(198, INT)),))), True)

    def test_the_fact_of_alike_tables(self):
        """Tables agree at all cases of both just if they do at all of the rows of both together, and everywhere."""
        chance = random.Random(61)
        seen = [0, 0]
        for _ in range(120):
            sorts = chance.choice(SORTS)
            one = some_table(chance, sorts, 4)
            rows = list(one.rows)
            chance.shuffle(rows)
            if rows and chance.random() < 0.4:
                rows[0] = rows[0][:2] + (some_demand(chance, rows[0][1], sorts, 2),)
            if rows and chance.random() < 0.3:
                rows.pop()
            if chance.random() < 0.3:
                rows = some_table(chance, sorts, 3).rows
            try:
                other = Table(DESK, sorts, tuple(rows))
            except BadTable:
                continue
            told = unlike(one, other)
            seen[told is None] += 1
            joined = slow_meets(top(sorts), one.rows + other.rows)
            every = slow_cases(DESK, sorts, joined, [row[1:] for row in one.rows + other.rows])
            agreed = all(agree(slow_choice(one.rows, *case), slow_choice(other.rows, *case)) for case in every)
            self.assertEqual(told is None, agreed)
            for _ in range(5):
                use = some_use(chance, chance.choice([one, other]))
                case = (use, some_facts(chance, use))
                differ = not agree(nearest(one, *case), nearest(other, *case))
                self.assertIs(is_unlike(one, other, case), differ)
                self.assertFalse(told is None and differ)
            if told is not None:
                self.assertIs(is_unlike(one, other, told), True)
        self.assertGreater(min(seen), 20)

    def test_the_count(self):
        chance = random.Random(62)
        raised = 0
        for _ in range(60):
            patterns = tuple(pair(("?", 2 * n), ("?", 2 * n + 1)) for n in range(2))
            some = [claim(chance.choice(["even", "odd", "good"]), n) for n in range(4) for _ in range(3)]
            chance.shuffle(some)
            demands = [both(both(*some[k:k + 2]), both(*some[k + 2:k + 4])) for k in (0, 4, 8)]
            rows = tuple((label, patterns, demand) for label, demand in zip("abc", demands))
            one = Table(DESK, TWO, rows[:2])
            other = Table(DESK, TWO, (rows[2], ("y", (pair(A, INT), B), some[0] if some[0][2] == 0 else None)))
            many = len(cases_of_both(one, other))
            if many > 2000:
                raised += 1
                with self.assertRaises(TooMany):
                    unlike(one, other)
            else:
                unlike(one, other)
        self.assertTrue(5 < raised < 55)
