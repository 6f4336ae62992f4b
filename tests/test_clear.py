"""[4.1], [4.2], [4.3]: whether tables are clear, what they lack, and where their rows are chosen."""

import random
import unittest

from nearestkinds.cases import cases
from nearestkinds.clear import dead, is_place, is_unclear, missing, place_of, unclear
from nearestkinds.errors import BadTable, NoRow
from nearestkinds.tables import Table, nearest
from nearestkinds.things import Book
from tests.great import MEETS_200, PARTS_200, SORTS_OF_CASES, SORTS_OF_PLACES, cases_2000, claims
from tests.samples import STRANGE, chain, shallow, slow_meet, wide
from tests.slow import (A, B, C, DESK, INT, KIND, SORTS, all_cases, both, claim, either, is_pair, new, other_things,
                        pair, ptr, slow_choice, slow_meets, slow_plain, some_bundle, some_clear, some_facts, some_table,
                        some_use, table, text, tri)

EVEN, ODD = claim("even", 0), claim("odd", 0)
TWO = ("kind", "kind")

CLEAR = [
    Table(DESK, KIND, ()), table(KIND, (A,)), table(KIND, (A,), (ptr(A),), (ptr(INT),)),
    table(TWO, (INT, A), (A, INT), (INT, INT)), table(TWO, (A, A), (A, ptr(A))),
    table(TWO, (A, A), (ptr(INT), B), (ptr(INT), ptr(INT))), table(KIND, [(A,), EVEN], (A,)),
    table(KIND, [(A,), EVEN], [(B,), claim("odd", 1)], [(A,), both(ODD, EVEN)]),
    table(("flag", "flag"), ("yes", A), (A, "no"), ("yes", "no")), table(("flag", "flag"), ("yes", A), ("no", A)),
    table(("number",), (1,), (2,), (A,)), table(KIND, [(ptr(A),), EVEN], (ptr(ptr(A)),)),
]
# Tables that are not clear, with a pair of a use and facts that shows it.
UNCLEAR = [
    (table(TWO, (INT, A), (A, INT)), ((INT, INT), ())),
    (table(KIND, (pair(A, B),), [(pair(A, INT),), None], (pair(INT, A),)), ((pair(INT, INT),), ())),
    (table(KIND, [(A,), EVEN], [(A,), ODD]), ((ptr(new(7)),), (("odd", ptr(new(7))), ("even", ptr(new(7)))))),
    (table(KIND, [(A,), both(EVEN, ODD)], [(A,), claim("good", 0)], (A,)),
     ((INT,), (("good", INT), ("even", INT), ("odd", INT)))),
    (table(("flag", "flag"), ("yes", A), (A, "no")), (("yes", "no"), ())),
    (table(("size", "flag"), ("small", A), (A, "yes"), ("small", "no")), (("small", "yes"), ())),
    (table(("number", "number"), (3, A), (A, 4)), ((3, 4), ())),
    (table(("number", "number"), (A, A), (A, 7)), ((7, 7), ())),
    (table(TWO, [(INT, A), claim("even", 0)], (A, INT)), ((INT, INT), (("even", INT),))),
    (table(TWO, [(INT, A), claim("even", 0)], [(A, ptr(B)), claim("odd", 1)]),
     ((INT, ptr(INT)), (("even", ptr(INT)), ("odd", INT)))),
    (table(("flag", "kind"), ("yes", A), [(A, B), None], (A, ptr(B)), ("no", ptr(ptr(A)))), (("yes", ptr(INT)), ())),
]


def is_wide(one):
    """Whether a table is wide."""
    named = {thing[0] for _, patterns, _ in one.rows for thing in all_of(patterns)
             if isinstance(thing, tuple) and thing[0] != "?"}
    sorts = list(one.sorts) + [sort for name, inner in one.book.heads if name in named for sort in inner]
    return all(row[2] is None for row in one.rows) and not set(sorts) & set(dict(one.book.lists))


def all_of(things):
    """All open things that stand in some."""
    told = list(things)
    for thing in things:
        if isinstance(thing, tuple) and thing[0] not in ("?", "~"):
            told.extend(all_of(thing[1:]))
    return told


def with_rows(one, bundles):
    """The table with rows of these patterns behind its own, or None if they may not be its rows."""
    labels = ["x" + "abcdefghij"[k // 10] + "abcdefghij"[k % 10] for k in range(len(bundles))]
    try:
        return Table(one.book, one.sorts, one.rows + tuple((label, each, None) for label, each in zip(labels, bundles)))
    except BadTable:
        return None


class UnclearTest(unittest.TestCase):
    def test_clear(self):
        for one in CLEAR:
            self.assertIsNone(unclear(one), one.rows)

    def test_unclear(self):
        for one, case in UNCLEAR:
            told = unclear(one)
            self.assertEqual(nearest(one, *told)[0], "many")
            self.assertTrue(type(told) is tuple and len(told) == 2)
            self.assertIs(is_unclear(one, told), True)
            self.assertIs(is_unclear(one, case), True, (one.rows, case))
            self.assertEqual(unclear(one), told)

    def test_judged(self):
        one = table(TWO, [(INT, A), claim("even", 0)], (A, INT), (A, B))
        right = ((INT, INT), (("even", INT),))
        self.assertIs(is_unclear(one, right), True)
        for thing in [
            ((INT, INT), ()), ((INT, ptr(INT)), (("even", INT),)), ((INT, INT), (("odd", INT),)), ((INT, INT),),
            right[0], right + ((),), list(right), ([INT, INT], right[1]), (right[0], list(right[1])),
            ((INT, A), right[1]), ((INT,), right[1]), (right[0], (("even", INT), ("even", A))),
            (right[0], (("even", INT),) * 201), (right[0], ("even", INT)), ((INT, new(True)), right[1]),
            ((INT, ("~", -1)), right[1]), (INT, right[1]),
            right[::-1], (right[0], (["even", INT],)), None, (None, None), ((INT, 3), right[1]),
            ((INT, "yes"), right[1]),
        ]:
            self.assertIs(is_unclear(one, thing), False, thing)
        self.assertIs(is_unclear(one, (right[0], right[1] * 200)), True)
        self.assertIs(is_unclear(one, (right[0], right[1] + (("bad", new(0)),))), True)

    def test_strange_things(self):
        for one, case in UNCLEAR[:3]:
            for thing in STRANGE:
                self.assertIs(is_unclear(one, thing), False)
                self.assertIs(is_unclear(one, (case[0], thing)), thing == () and case[1] == ())
                self.assertIs(is_unclear(one, (thing, case[1])), False)
                self.assertIs(is_unclear(one, (case[0], case[1], thing)), False)

    def test_one_thing_otherwise_at_any_place(self):
        one, case = UNCLEAR[9]
        for thing in other_things(case, [None, True, 4, "even", INT, A, (), [], new(2)]):
            told = is_pair(one, thing) and slow_choice(one.rows, *thing)[0] == "many"
            self.assertIs(is_unclear(one, thing), told, thing)

    def test_uses_that_are_no_cases(self):
        one = table(TWO, (INT, A), [(A, INT), None])
        for use in [(INT, INT)]:
            for facts in [(), (("even", INT),), (("bad", new(5)), ("even", chain(30, INT)))]:
                self.assertIs(is_unclear(one, (use, facts)), True)
        one = table(TWO, (ptr(A), B), (A, ptr(B)))
        for use in [(ptr(INT), ptr(INT)), (ptr(new(9)), chain(40, INT)), (chain(199, INT), ptr(wide(999)))]:
            self.assertIs(shallow(is_unclear, one, (use, ())), True)
        self.assertIs(is_unclear(one, ((ptr(INT), INT), ())), False)

    def test_of_a_clear_table_nothing_is_one(self):
        chance = random.Random(51)
        for one in CLEAR:
            for case in cases(one):
                self.assertIs(is_unclear(one, case), False)
            for _ in range(10):
                use = some_use(chance, one)
                self.assertIs(is_unclear(one, (use, some_facts(chance, use))), False)

    def test_the_greatest(self):
        self.assertIsNone(unclear(Table(DESK, SORTS_OF_CASES, cases_2000())))
        self.assertIs(is_unclear(Table(DESK, SORTS_OF_PLACES, MEETS_200),
                                 unclear(Table(DESK, SORTS_OF_PLACES, MEETS_200))), True)
        one = table(("kind",) * 4, *PARTS_200)
        self.assertIs(is_unclear(one, unclear(one)), True)

    def test_one_fact_of_many(self):
        # Of 2 ** 9 facts just one lot makes two rows meet that are not nearer than each other.
        all_nine = claims(9)
        one_demand = both(both(both(all_nine[0], all_nine[1]), both(all_nine[2], all_nine[3])),
                          both(both(all_nine[4], all_nine[5]), both(all_nine[6], all_nine[7])))
        patterns = (tri(*[("?", n) for n in (1, 2, 3)]),)
        one = table(KIND, [patterns, one_demand], [patterns, all_nine[8]])
        told = unclear(one)
        self.assertEqual(len(told[1]), 9)
        self.assertIs(is_unclear(one, told), True)
        self.assertIsNone(unclear(table(KIND, [patterns, one_demand], [patterns, all_nine[7]])))

    def test_random(self):
        chance = random.Random(52)
        seen = [0, 0]
        for _ in range(250):
            one = some_table(chance, chance.choice(SORTS), 6)
            told = unclear(one)
            many = [case for case in all_cases(one) if slow_choice(one.rows, *case)[0] == "many"]
            self.assertEqual(told is None, not many)
            seen[told is None] += 1
            if told is not None:
                self.assertIs(is_unclear(one, told), True)
                self.assertEqual(slow_choice(one.rows, *told)[0], "many")
            for _ in range(5):
                use = some_use(chance, one)
                case = (use, some_facts(chance, use))
                self.assertIs(is_unclear(one, case), slow_choice(one.rows, *case)[0] == "many")
                self.assertFalse(told is None and is_unclear(one, case))
        self.assertGreater(min(seen), 20)


class MissingTest(unittest.TestCase):
    def test_ordinary(self):
        self.assertEqual(missing(table(TWO, (INT, A), (A, INT))), [(INT, INT)])
        self.assertEqual(missing(table(TWO, (INT, A), (A, INT), (INT, INT))), [])
        self.assertEqual(missing(Table(DESK, TWO, ())), [])
        self.assertEqual(missing(table(TWO, (ptr(A), B))), [])
        self.assertEqual(missing(table(TWO, (A, A), (ptr(A), B))), [(ptr(A), ptr(A))])
        self.assertEqual(missing(table(TWO, (A, A), (B, A))), [])
        self.assertEqual(missing(table(TWO, (ptr(A), A), (A, ptr(A)))), [])
        three = table(("kind",) * 3, (INT, A, B), (A, INT, B), (A, B, INT))
        self.assertEqual(missing(three), [(A, INT, INT), (INT, A, INT), (INT, INT, A), (INT, INT, INT)])

    def test_ascending_by_texts(self):
        one = table(("number",) * 2, (1, A), (10, A), (9, A), (A, 5))
        self.assertEqual(missing(one), [(10, 5), (1, 5), (9, 5)])

    def test_whichever_row_is_like_it(self):
        one = table(TWO, (INT, A), (A, ptr(B)), [(INT, ptr(("?", 9))), claim("even", 9)])
        self.assertEqual(missing(one), [])
        self.assertEqual(missing(table(TWO, (INT, A), (A, ptr(B)))), [(INT, ptr(A))])
        # All unknowns are no meet of two rows, but for rows like it.
        self.assertEqual(missing(table(TWO, [(A, B), EVEN], [(B, A), EVEN])), [])
        self.assertEqual(missing(table(TWO, [(ptr(A), B), EVEN], [(ptr(B), A), ODD], (ptr(INT), A))), [])
        self.assertEqual(missing(table(TWO, [(ptr(A), B), EVEN], [(A, ptr(B)), ODD])), [(ptr(A), ptr(B))])

    def test_that_are_not_wide(self):
        self.assertEqual(missing(table(("flag", "flag"), ("yes", A), (A, "no"))), [("yes", "no")])
        one = table(("flag", "flag"), ("yes", A), ("no", A), (A, A))
        self.assertEqual(missing(one), [("no", "no"), ("yes", "yes")])

    def test_great_meets(self):
        self.assertEqual(len(missing(Table(DESK, SORTS_OF_PLACES, MEETS_200))), 200 - 9 - 1)
        self.assertEqual(missing(table(("kind",) * 4, *PARTS_200)), [slow_meet(*PARTS_200)])

    def test_random(self):
        chance = random.Random(53)
        for _ in range(150):
            one = some_table(chance, chance.choice(SORTS), 6)
            texts = {text(slow_plain(row[1])) for row in one.rows}
            told = set()
            for k, row in enumerate(one.rows):
                for bundle in slow_meets(slow_plain(row[1]), one.rows[:k] + one.rows[k + 1:]):
                    told.add((text(bundle), bundle))
            self.assertEqual(missing(one), [bundle for each, bundle in sorted(told) if each not in texts])

    def test_the_fact_of_missing_rows(self):
        chance = random.Random(54)
        seen = [0, 0, 0]
        for _ in range(300):
            sorts = chance.choice([KIND, TWO, TWO, ("kind", "number"), ("number", "number"), ("kind", "kind", "kind")])
            book = Book(DESK.lists, tuple(pair for pair in DESK.heads if not {"flag", "size"} & set(pair[1])), ())
            rows = tuple((label, some_bundle(chance, sorts, 3, 2), None) for label in "abcde"[:chance.randrange(6)])
            try:
                one = Table(book, sorts, rows)
            except BadTable:
                continue
            self.assertTrue(is_wide(one))
            self.assertEqual(unclear(one) is None, missing(one) == [])
            seen[missing(one) == []] += 1
            other = with_rows(one, missing(one))
            if other is not None:
                seen[2] += 1
                self.assertEqual((unclear(other), missing(other)), (None, []))
        self.assertGreater(min(seen), 15)

    def test_a_clear_table_with_these_rows_has_all(self):
        one = table(TWO, (INT, A), (A, INT), (ptr(A), B))
        self.assertEqual(missing(one), [(INT, INT), (ptr(A), INT)])
        for bundles, told in [([], False), ([(INT, INT)], False), ([(ptr(B), INT)], False),
                              ([(INT, INT), (ptr(B), INT)], True), ([(ptr(B), INT), (INT, INT), (INT, ptr(A))], True)]:
            self.assertEqual(unclear(with_rows(one, bundles)) is None, told)

    def test_new_lists(self):
        one = table(TWO, (INT, A), (A, INT))
        missing(one).append(None)
        self.assertEqual(missing(one), [(INT, INT)])


class PlaceTest(unittest.TestCase):
    def test_ordinary(self):
        one = table(KIND, (A,), (ptr(A),), [(ptr(INT),), None])
        for row in range(3):
            told = place_of(one, row)
            self.assertEqual(nearest(one, *told), ("row", "abc"[row]))
            self.assertIs(is_place(one, row, told), True)
            self.assertEqual(place_of(one, row), told)
            for other in range(3):
                self.assertIs(is_place(one, other, told), other == row)
        self.assertEqual(dead(one), ())

    def test_dead(self):
        one = table(("flag", "kind"), (A, B), ("yes", A), ("no", A))
        self.assertIsNone(place_of(one, 0))
        self.assertEqual(dead(one), (0,))
        one = table(KIND, [(A,), EVEN], (A,), [(A,), both(EVEN, ODD)], [(A,), claim("good", 0)])
        self.assertEqual(dead(one), ())
        one = table(("size", "flag", "flag"), (A, B, C), ("small", A, B), ("middle", A, B), ("large", "yes", A),
                    ("large", "no", A), ("large", A, B))
        self.assertEqual(dead(one), (0, 5))
        self.assertEqual([place_of(one, row) is None for row in range(6)], [True, False, False, False, False, True])

    def test_chosen_for_one_word_alone(self):
        one = table(("size", "flag"), (A, B), ("small", A), ("large", A), ("middle", "no"))
        self.assertEqual(place_of(one, 0), (("middle", "yes"), ()))
        self.assertIs(is_place(one, 0, (("middle", "yes"), (("even", INT),))), True)
        self.assertIs(is_place(one, 0, (("middle", "no"), ())), False)
        self.assertEqual(dead(one), ())

    def test_chosen_for_one_fact_alone(self):
        one = table(KIND, [(A,), either(EVEN, ODD)], [(A,), EVEN], [(A,), both(EVEN, ODD)])
        told = place_of(one, 0)
        self.assertEqual(told, ((new(0),), (("odd", new(0)),)))
        self.assertIs(is_place(one, 0, ((INT,), (("odd", INT), ("good", INT)))), True)
        self.assertIs(is_place(one, 0, ((INT,), (("odd", INT), ("even", INT)))), False)
        one = table(KIND, [(A,), either(EVEN, ODD)], [(A,), EVEN], [(A,), ODD])
        self.assertEqual(dead(one), (0,))
        self.assertIsNone(place_of(one, 0))

    def test_of_a_table_that_is_not_clear(self):
        one = table(TWO, (INT, A), (A, INT))
        self.assertEqual(dead(one), ())
        one = table(("flag",), ("yes",), ("no",), (A,))
        self.assertEqual(dead(one), (2,))
        # Wherever one of the first two rows meets a use, so does the other, and neither is nearer.
        one = table(("flag", "flag", "kind"), ("yes", A, B), (A, "yes", INT), (A, "no", B), (A, "yes", B))
        self.assertIsNotNone(unclear(one))
        told = dead(one)
        self.assertEqual(told, (0,))
        self.assertIsNone(place_of(one, 0))

    def test_judged(self):
        one = table(("flag", "kind"), (A, B), [("yes", A), EVEN], ("no", ptr(A)))
        right = (("yes", ptr(INT)), (("even", ptr(INT)),))
        self.assertIs(is_place(one, 1, right), True)
        for thing in [((), ()), (("yes", ptr(INT)), ()), (("yes", ptr(INT)), (("even", INT),)), list(right), right[0],
                      (("no", ptr(INT)), right[1]), (list(right[0]), right[1]), (right[0], list(right[1])),
                      (("yes", ptr(A)), right[1]), (right[0], right[1] + (None,)), right + right, None,
                      (("yes", ("~", True)), (("even", ("~", 1)),)), (("yes", 3), (("even", INT),))]:
            self.assertIs(is_place(one, 1, thing), False)
        for thing in STRANGE:
            self.assertIs(is_place(one, 1, thing), False)
            self.assertIs(is_place(one, 1, (right[0], thing)), False)
            self.assertIs(is_place(one, 1, (thing, right[1])), False)
        self.assertIs(is_place(one, 0, (("no", INT), ())), True)
        self.assertIs(is_place(one, 0, (("no", new(10 ** 19)), (("even", new(10 ** 19)),))), True)
        self.assertIs(shallow(is_place, one, 2, (("no", chain(199, INT)), ())), True)

    def test_no_row(self):
        one = table(KIND, (A,), (ptr(A),))
        for row in STRANGE + [2, 3, -2, "0", (0,), [0]]:
            if type(row) is int and row in (0, 1):
                continue
            with self.assertRaises(NoRow):
                place_of(one, row)
            for thing in (None, ((INT,), ())):
                with self.assertRaises(NoRow):
                    is_place(one, row, thing)
        with self.assertRaises(NoRow):
            place_of(Table(DESK, KIND, ()), 0)
        self.assertEqual(dead(Table(DESK, KIND, ())), ())

    def test_without_dead_rows_the_choices_are_what_they_were(self):
        chance = random.Random(55)
        seen = 0
        for _ in range(100):
            one = some_clear(chance, chance.choice([("flag", "flag"), ("flag", "kind"), ("size", "flag")]), 5)
            if dead(one):
                other = Table(DESK, one.sorts, tuple(row for k, row in enumerate(one.rows) if k not in dead(one)))
                seen += 1
                for case in cases(one):
                    self.assertEqual(nearest(one, *case), nearest(other, *case))
        self.assertGreater(seen, 5)

    def test_random(self):
        chance = random.Random(56)
        for _ in range(150):
            one = some_table(chance, chance.choice(SORTS + [("size", "flag")]), 7)
            chosen = [slow_choice(one.rows, *case) for case in all_cases(one)]
            told = tuple(k for k, row in enumerate(one.rows) if ("row", row[0]) not in chosen)
            self.assertEqual(dead(one), told)
            for row in range(len(one.rows)):
                place = place_of(one, row)
                self.assertEqual(place is None, row in told)
                if place is not None:
                    self.assertIs(is_place(one, row, place), True)
                    self.assertEqual(slow_choice(one.rows, *place), ("row", one.rows[row][0]))
                use = some_use(chance, one)
                case = (use, some_facts(chance, use))
                self.assertIs(is_place(one, row, case), slow_choice(one.rows, *case) == ("row", one.rows[row][0]))
