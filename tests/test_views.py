"""[6.1], [6.2]: wishes, where units part from the whole, and what they must see."""

import random
import unittest

from nearestkinds.cases import cases
from nearestkinds.clear import unclear
from nearestkinds.errors import NoLot, NotClear, NoWish, TooMany
from nearestkinds.tables import Table, nearest
from nearestkinds.views import is_parting, is_wish, parting, view
from tests.great import MEETS_200, PARTS_200, PARTS_201, SORTS_OF_CASES, SORTS_OF_PLACES, cases_2000
from tests.samples import STRANGE, chain, count, shallow, slow_bundle, wide
from tests.slow import (A, B, C, DESK, INT, KIND, SORTS, agree, becomes, both, claim, either, is_pair, lots_of, new,
                        other_things, pair, ptr, slow_choice, slow_meets, slow_plain, some_bundle, some_clear,
                        some_demand, some_facts, some_use, sorts_within, table, tri, wish_cases)

EVEN, ODD = claim("even", 0), claim("odd", 0)
TWO = ("kind", "kind")
UNCLEAR = table(TWO, (INT, A), (A, INT))

# A clear table of one place: all kinds, pointers, pointers to even kinds, and to an int.
ONE = table(KIND, (A,), (ptr(A),), [(ptr(A),), EVEN], (ptr(INT),))


def great_table():
    """A clear table of 2000 cases, of which a wish with the word yes has 1001."""
    rows = [row for row in cases_2000() if row[0] != "h"]
    rows += [("last", ("yes", ptr(INT), 99), None), ("final", ("yes", ptr(INT), 98), None)]
    return Table(DESK, SORTS_OF_CASES, tuple(rows))


def great_calls(one):
    """Calls of which each raises what is too many."""
    return [lambda wish: parting(one, (), wish), lambda wish: parting(one, tuple(range(len(one.rows))), wish),
            lambda wish: view(one, wish)]


def slow_wish(one, thing):
    """Whether a thing is a wish, by calls within calls."""
    if type(thing) is not tuple or len(thing) != 2 or not slow_bundle(one.book, one.sorts, thing[0]):
        return False
    sorts = sorts_within(one.book, one.sorts, thing[0])

    def deep(part):
        return 1 + max(map(deep, part[1:]), default=0) if isinstance(part, tuple) and part[0] not in ("?", "~") else 1

    def fits(demand, left):
        if type(demand) is not tuple or len(demand) != 3 or not left:
            return False
        if type(demand[0]) is str and demand[0] in ("both", "either"):
            return fits(demand[1], left - 1) and fits(demand[2], left - 1)
        named = demand[0] == "claim" and type(demand[1]) is str and demand[1] in one.book.claims
        return named and type(demand[2]) is int and sorts.get(demand[2]) == "kind"

    small = sum(map(count, thing[0])) <= 20 and max(map(deep, thing[0])) <= 5 and "~" not in repr(thing[0])
    return small and (thing[1] is None or fits(thing[1], 4))


class WishTest(unittest.TestCase):
    def told(self, one, thing):
        told = shallow(is_wish, one, thing)
        self.assertIs(type(told), bool)
        return told

    def test_wishes(self):
        for one, wishes in [
            (ONE, [((A,), None), ((INT,), None), ((ptr(("?", 999)),), claim("even", 999)), ((A,), both(EVEN, ODD)),
                   ((wide(19),), None), ((chain(4, A),), EVEN), ((tri(wide(5), wide(7), wide(7)),), None),
                   ((("mode", A, B),), claim("bad", 1)), ((("opt", "yes", 10 ** 19, INT),), None)]),
            (table(("flag", "number", "kind")),
             [(("yes", 3, INT), None), ((A, B, C), claim("good", 2)),
              ((A, B, ("opt", A, B, C)), either(claim("good", 2), claim("odd", 2)))]),
            (table(TWO), [((wide(19), A), EVEN), ((A, A), EVEN), ((wide(17), ptr(ptr(A))), None)]),
        ]:
            for wish in wishes:
                self.assertTrue(self.told(one, wish), wish)

    def test_no_wishes(self):
        for one, things in [
            (ONE, [(A,), ((A,),), ((A,), None, None), [(A,), None], ([A], None), ((A, B), None), ((), None), (A, None),
                   ((3,), None), ((("?", 1000),), None), ((("?", -1),), None), ((("?", True),), None),
                   ((new(0),), None), ((ptr(new(1)),), None), ((wide(21),), None),
                   ((tri(wide(7), wide(7), ptr(wide(5))),), None),
                   ((chain(5, A),), None), ((chain(5, INT),), None), ((chain(300, INT),), None),
                   ((A,), claim("even", 1)), ((A,), claim("small", 0)), ((INT,), EVEN), ((A,), both(EVEN, None)),
                   ((A,), ()), ((A,), "even"),
                   ((("mode", A, B),), EVEN), ((("opt", A, B, C),), claim("even", 1)), ((A,), ["claim", "even", 0]),
                   ((A,), claim("even", True)), ((A,), claim("even", False)), ((("opt", A, A, B),), None),
                   (None, (A,)), ((A,), (A,)), ((A,), False)]),
            (table(("flag", "number", "kind")), [(("yes", "no", INT), None), (("small", 3, INT), None),
                                                 ((A, A, B), None), ((A, B, C), EVEN), ((A, B, C), claim("even", 1)),
                                                 ((A, True, C), None), ((A, B, ("opt", B, A, C)), None)]),
            (table(TWO), [((wide(19), ptr(A)), None), ((wide(19), A), claim("even", 1)), ((A,), None)]),
        ]:
            for thing in things:
                self.assertFalse(self.told(one, thing), thing)

    def test_as_deep_as_demands_may_be(self):
        demand = EVEN
        for deep in range(1, 8):
            self.assertEqual(self.told(ONE, ((A,), demand)), deep <= 4)
            demand = both(ODD, demand) if deep % 2 else either(demand, ODD)

    def test_strange_things(self):
        for thing in STRANGE:
            self.assertFalse(self.told(ONE, thing))
            self.assertFalse(self.told(ONE, (thing, thing)))
            self.assertEqual(self.told(ONE, ((A,), thing)), thing is None)
            self.assertEqual(self.told(ONE, (thing, None)), thing == (INT,))
            self.assertEqual(self.told(ONE, ((thing,), None)), thing == INT)
            self.assertFalse(self.told(ONE, ((A,), both(EVEN, thing))))

    def test_of_tables_that_are_not_clear(self):
        self.assertTrue(self.told(UNCLEAR, ((A, INT), EVEN)))
        self.assertFalse(self.told(UNCLEAR, ((A,), EVEN)))

    def test_one_thing_otherwise_at_any_place(self):
        right = ((pair(A, B), ("opt", "yes", 3, A)), both(EVEN, claim("odd", 1)))
        one = table(TWO)
        self.assertTrue(self.told(one, right))
        many = [0, 0]
        for thing in other_things(right, [None, True, 1, 1000, "no", "small", "even", A, C, INT, new(0), [], (), EVEN]):
            told = slow_wish(one, thing)
            many[told] += 1
            self.assertEqual(self.told(one, thing), told, thing)
        self.assertGreater(min(many), 20)


class ViewTest(unittest.TestCase):
    def test_ordinary(self):
        for wish, told in [
            (((A,), None), (0, 1, 2, 3)), (((INT,), None), (0,)), (((ptr(A),), None), (1, 2, 3)),
            (((ptr(A),), EVEN), (2, 3)), (((ptr(INT),), None), (3,)), (((ptr(ptr(A)),), None), (1, 2)),
            (((ptr(ptr(A)),), EVEN), (1, 2)), (((ptr(pair(A, B)),), claim("odd", 1)), (1, 2)),
            (((pair(A, A),), None), (0,)),
        ]:
            self.assertEqual(view(ONE, wish), told, wish)
        self.assertEqual(view(Table(DESK, KIND, ()), ((A,), None)), ())
        self.assertEqual(view(table(KIND, (ptr(A),)), ((pair(A, B),), None)), ())
        self.assertEqual(view(table(KIND, (ptr(A),)), ((A,), None)), (0,))

    def test_other_numbers_of_unknowns(self):
        for n in (0, 7, 20, 999):
            self.assertEqual(view(ONE, ((ptr(("?", n)),), claim("even", n))), (2, 3))

    def test_words_and_numbers(self):
        one = table(("flag", "number"), (A, B), ("yes", B), (A, 3), ("yes", 3), ("no", 4))
        for bundle, told in [((A, B), (0, 1, 2, 3, 4)), (("yes", A), (1, 3)), (("no", A), (0, 2, 4)), ((A, 3), (2, 3)),
                             ((A, 4), (1, 4)), ((A, 0), (0, 1)), (("no", 5), (0,)), (("yes", 4), (1,))]:
            self.assertEqual(view(one, (bundle, None)), told, bundle)

    def test_numbers_of_the_wish(self):
        # The wish's own number stands in no row, and what is put for its unknowns may be it, or none of rows.
        one = table(("number", "number"), (A, B), (A, A), (0, 1))
        self.assertEqual(view(one, ((2, A), None)), (0, 1))
        self.assertEqual(view(one, ((0, A), None)), (0, 1, 2))
        self.assertEqual(view(one, ((A, A), None)), (1,))
        one = table(("number", "number"), (A, B), (A, A))
        self.assertEqual(view(one, ((0, A), None)), (0, 1))

    def test_an_unknown_twice(self):
        one = table(TWO, (A, B), (A, A), (ptr(A), A))
        self.assertEqual(view(one, ((A, A), None)), (1,))
        self.assertEqual(view(one, ((A, B), None)), (0, 1, 2))
        self.assertEqual(view(one, ((ptr(A), A), None)), (2,))
        self.assertEqual(view(one, ((A, ptr(A)), None)), (0,))

    def test_errors_in_their_order(self):
        for wish in STRANGE + [((new(0),), None), ((A, B), None), ((A,), claim("even", 1)), ((A,), None)]:
            with self.assertRaises(NotClear):
                view(UNCLEAR, wish)
            if wish != ((A,), None):
                with self.assertRaises(NoWish):
                    shallow(view, ONE, wish)

    def test_too_many(self):
        one = great_table()
        self.assertIsNone(unclear(one))
        self.assertEqual(len(cases(one)), 2000)
        self.assertEqual(view(one, ((A, B, C), None)), tuple(range(10)))
        self.assertEqual(view(one, (("yes", B, C), None)), tuple(range(10)))
        self.assertEqual(len(wish_cases(one, (("yes", B, C), None))), 1001)
        other = Table(DESK, SORTS_OF_CASES, cases_2000())
        self.assertEqual(len(wish_cases(other, (("yes", B, C), claim("bad", 1)))), 2000)
        self.assertEqual(view(other, (("yes", B, C), claim("bad", 1))), tuple(range(9)))
        self.assertIsNone(parting(other, tuple(range(9)), (("yes", B, C), claim("bad", 1))))
        for wish in [(("yes", B, C), claim("bad", 1)), ((A, B, C), claim("even", 1)),
                     (("no", B, C), both(claim("bad", 1), claim("good", 1)))]:
            self.assertGreater(len(wish_cases(one, wish)), 2000)
            for call in great_calls(one):
                with self.assertRaises(TooMany) as told:
                    call(wish)
                self.assertEqual(told.exception.most, 2000)

    def test_a_meet_of_too_many_parts(self):
        one = table(("kind",) * 4, PARTS_200[1])
        self.assertEqual(view(one, (PARTS_200[0], None)), (0,))
        self.assertEqual(max(sum(map(count, each)) for each in slow_meets(slow_plain(PARTS_200[0]), one.rows)), 200)
        one = table(("kind",) * 4, PARTS_201[1])
        for wish in [(PARTS_201[0], None), (PARTS_201[0], EVEN)]:
            for call in great_calls(one):
                with self.assertRaises(TooMany) as told:
                    call(wish)
                self.assertEqual(told.exception.most, 2000)

    def test_words_beyond_all_counting(self):
        one = table(("size",) * 4, ("small", A, B, C))
        words = [("mode", ("?", n), ("mode", ("?", n + 100), ("mode", ("?", n + 200), INT))) for n in range(2)]
        other = table(("kind",) * 2, (A, B))
        self.assertEqual(view(one, (tuple(("?", 10 * n) for n in range(4)), None)), (0,))
        for call in great_calls(other):
            with self.assertRaises(TooMany):
                call(((words[0], pair(words[1], ("mode", ("?", 300), INT))), None))

    def test_many_meets(self):
        # Of a table of 200 meets that is not clear no wish is asked.
        for call in great_calls(Table(DESK, SORTS_OF_PLACES, MEETS_200)):
            with self.assertRaises(NotClear):
                call(None)


class PartingTest(unittest.TestCase):
    def test_a_row_that_is_not_seen(self):
        told = parting(ONE, (0, 1, 2), ((ptr(A),), None))
        self.assertEqual(told, ((ptr(INT),), ()))
        self.assertIs(is_parting(ONE, (0, 1, 2), ((ptr(A),), None), told), True)
        self.assertIsNone(parting(ONE, (0, 1, 2), ((ptr(ptr(A)),), None)))
        self.assertIsNone(parting(ONE, (0, 1, 2, 3), ((A,), None)))
        self.assertIsNone(parting(ONE, (1, 2, 3), ((ptr(A),), None)))
        self.assertIsNone(parting(ONE, (0,), ((pair(A, B),), EVEN)))

    def test_none_in_its_place(self):
        told = parting(ONE, (), ((pair(A, B),), None))
        self.assertEqual(told, ((pair(new(0), new(1)),), ()))
        self.assertIs(is_parting(ONE, (), ((pair(A, B),), None), told), True)
        self.assertIsNone(parting(Table(DESK, KIND, ()), (), ((A,), None)))
        self.assertIsNone(parting(table(KIND, (ptr(A),)), (), ((INT,), None)))

    def test_many_in_its_place(self):
        one = table(TWO, (INT, A), (A, INT), (INT, INT))
        told = parting(one, (0, 1), ((A, B), None))
        self.assertEqual(told, ((INT, INT), ()))
        self.assertIs(is_parting(one, (0, 1), ((A, B), None), told), True)
        self.assertIs(is_parting(one, (0, 1), ((A, B), None), ((INT, ptr(INT)), ())), False)
        self.assertEqual(parting(one, (1, 2), ((INT, A), None)), ((INT, new(0)), ()))

    def test_a_seen_row_in_its_place(self):
        for seen, wish, told in [
            ((0, 1, 3), ((ptr(A),), None), True), ((0, 1, 3), ((ptr(A),), EVEN), True), ((0, 3), ((A,), None), True),
            ((0, 2, 3), ((ptr(A),), EVEN), False), ((2, 3), ((ptr(A),), either(EVEN, ODD)), True),
            ((2, 3), ((ptr(A),), both(EVEN, ODD)), False), ((3,), ((ptr(INT),), None), False),
        ]:
            self.assertEqual(parting(ONE, seen, wish) is not None, told, (seen, wish))

    def test_one_fact_alone(self):
        one = table(KIND, (A,), [(A,), both(EVEN, both(ODD, claim("good", 0)))])
        told = parting(one, (0,), ((ptr(A),), None))
        kind = ptr(new(0))
        self.assertEqual(told, ((kind,), (("even", kind), ("good", kind), ("odd", kind))))
        facts = tuple((name, ptr(INT)) for name in ("odd", "good", "even", "bad"))
        self.assertIs(is_parting(one, (0,), ((ptr(A),), None), ((ptr(INT),), facts)), True)
        self.assertIs(is_parting(one, (0,), ((ptr(A),), None), ((ptr(INT),), facts[1:])), False)

    def test_judged(self):
        wish, seen = ((ptr(A),), ODD), (0, 1, 2)
        right = ((ptr(INT),), (("odd", INT),))
        self.assertIs(is_parting(ONE, seen, wish, right), True)
        self.assertIs(is_parting(ONE, (0, 1, 2, 3), wish, right), False)
        for thing in [
            ((ptr(INT),), ()), ((ptr(INT),), (("even", INT),)), ((ptr(INT),), (("odd", ptr(INT)),)), (right[0],),
            right[0], right + ((),), list(right), ([ptr(INT)], right[1]), (right[0], list(right[1])),
            ((ptr(A),), right[1]),
            ((INT,), right[1]), ((ptr(ptr(INT)),), (("odd", ptr(INT)),)), (right[0], right[1] + (("odd", A),)),
            (right[0], right[1] * 201), ((ptr(3),), right[1]), ((ptr(INT), INT), right[1]), None, (None, None),
            ((ptr(("~", True)),), (("odd", ("~", True)),)), right[::-1], (right, right),
        ]:
            self.assertIs(is_parting(ONE, seen, wish, thing), False, thing)
        self.assertIs(is_parting(ONE, seen, wish, (right[0], right[1] * 200)), True)
        for thing in STRANGE:
            self.assertIs(is_parting(ONE, seen, wish, thing), False)
            self.assertIs(is_parting(ONE, seen, wish, (right[0], thing)), False)
            self.assertIs(is_parting(ONE, seen, wish, (thing, right[1])), False)
        for thing in other_things(right, [None, True, 0, "odd", "even", INT, A, new(0), [], (), ptr(INT)]):
            told = is_pair(ONE, thing) and becomes(wish, *thing)
            told = told and not agree(slow_choice(ONE.rows[:3], *thing), slow_choice(ONE.rows, *thing))
            self.assertIs(is_parting(ONE, seen, wish, thing), told, thing)

    def test_judged_where_it_is_no_case(self):
        one = table(KIND, (A,), [(A,), EVEN])
        deep = chain(198, INT)
        case = ((ptr(deep),), (("even", ptr(chain(198, INT))), ("odd", deep)))
        self.assertIs(shallow(is_parting, one, (0,), ((ptr(A),), ODD), case), True)
        self.assertIs(shallow(is_parting, one, (0,), ((ptr(A),), ODD), (case[0], case[1][:1])), False)
        self.assertIs(shallow(is_parting, one, (0, 1), ((ptr(A),), ODD), case), False)

    def test_judging_needs_no_cases(self):
        one = great_table()
        wish = (("yes", B, C), both(claim("bad", 1), claim("good", 1)))
        facts = (("good", ptr(INT)), ("bad", ptr(INT)))
        self.assertIs(is_parting(one, (), wish, (("yes", ptr(INT), 99), facts)), True)
        self.assertIs(is_parting(one, (), wish, (("yes", ptr(INT), 97), facts)), False)
        self.assertIs(is_parting(one, (), wish, (("no", ptr(INT), 99), facts)), False)
        one = table(("kind",) * 4, PARTS_201[1])
        self.assertIs(is_parting(one, (), (PARTS_201[0], None), ((INT,) * 4, ())), False)

    def test_no_lot(self):
        wish = ((ptr(A),), None)
        for seen in [(1, 0), (0, 0), (0, 1, 1), (0, 4), (4,), (-1,), (-1, 0), (0, 2, 1), [0, 1], [], {0: 1}, 0, 3, "01",
                     (True,), (0, True), (False,), (False, 1), ("0",), (0, None), ((0, 1),), (0, [1]), (None,),
                     (0, 10 ** 30),                     (0, 1, 2, 3, 4), chain(50, 0), range(3), (0,) * 5000] + STRANGE:
            if type(seen) is tuple and seen in ((), (0,)):
                continue
            for passed in (wish, None, ((A, B), None)):
                with self.assertRaises(NoLot):
                    parting(ONE, seen, passed)
                for thing in (None, ((ptr(INT),), ())):
                    with self.assertRaises(NoLot):
                        is_parting(ONE, seen, passed, thing)
        for seen in lots_of(range(4)):
            told = parting(ONE, tuple(seen), wish)
            self.assertEqual(told is None, {1, 2, 3} <= set(seen))
        with self.assertRaises(NoLot):
            parting(Table(DESK, KIND, ()), (0,), wish)

    def test_errors_in_their_order(self):
        right = ((ptr(INT),), ())
        for seen in ((0, 1), None, [0], (7,)):
            for wish in (((A, B), None), ((A,), None), None, (PARTS_201[0], None)):
                with self.assertRaises(NotClear):
                    parting(UNCLEAR, seen, wish)
                with self.assertRaises(NotClear):
                    is_parting(UNCLEAR, seen, wish, right)
        for wish in STRANGE + [((new(0),), None), ((A, B), None), ((A,), claim("even", 1)), ((wide(21),), None)]:
            for call in (lambda: parting(ONE, (0, 1), wish), lambda: is_parting(ONE, (0, 1), wish, right),
                         lambda: is_parting(ONE, (), wish, None)):
                with self.assertRaises(NoWish):
                    shallow(call)
        one = table(("kind",) * 4, PARTS_201[1])
        with self.assertRaises(NoLot):
            parting(one, (1,), (PARTS_201[0], None))
        with self.assertRaises(NoWish):
            parting(one, (0,), (PARTS_201[0], claim("even", 5)))
        with self.assertRaises(TooMany):
            parting(one, (0,), (PARTS_201[0], None))

    def test_told_again(self):
        told = parting(ONE, (0,), ((ptr(A),), None))
        self.assertTrue(type(told) is tuple and len(told) == 2)
        self.assertEqual(parting(ONE, (0,), ((ptr(A),), None)), told)


class FactOfViewsTest(unittest.TestCase):
    def test_each_lot_of_rows(self):
        chance = random.Random(71)
        for _ in range(60):
            sorts = chance.choice(SORTS)
            one = some_clear(chance, sorts, 4)
            bundle = chance.choice([some_bundle(chance, sorts, 3, 2)] + [row[1] for row in one.rows])
            wish = (bundle, some_demand(chance, bundle, sorts, 2))
            told = view(one, wish)
            for seen in lots_of(range(min(len(one.rows), 5))):
                seen = tuple(seen) + tuple(range(5, len(one.rows)))
                self.assertEqual(parting(one, seen, wish) is None, set(told) <= set(seen))

    def test_random(self):
        chance = random.Random(72)
        parted, held = 0, 0
        for _ in range(120):
            sorts = chance.choice(SORTS)
            one = some_clear(chance, sorts, 4)
            bundle = chance.choice([some_bundle(chance, sorts, 3, 2)] + [row[1] for row in one.rows])
            wish = (bundle, some_demand(chance, bundle, sorts, 2))
            self.assertTrue(is_wish(one, wish))
            may = [case for case in wish_cases(one, wish) if becomes(wish, *case)]
            chosen = [slow_choice(one.rows, *case) for case in may]
            rows = tuple(k for k, row in enumerate(one.rows) if ("row", row[0]) in chosen)
            self.assertEqual(view(one, wish), rows)
            seen = tuple(k for k in range(len(one.rows)) if chance.random() < 0.6)
            told = parting(one, seen, wish)
            some = [one.rows[k] for k in seen]
            self.assertEqual(told is None, all(agree(slow_choice(some, *case), whole)
                                               for case, whole in zip(may, chosen)))
            if told is not None:
                parted += 1
                self.assertIs(is_parting(one, seen, wish, told), True)
                self.assertTrue(becomes(wish, *told))
            for _ in range(5):
                use = some_use(chance, one, chance.choice(slow_meets(slow_plain(bundle), one.rows)))
                case = (use, some_facts(chance, use))
                parts = becomes(wish, *case) and not agree(slow_choice(some, *case), nearest(one, *case))
                self.assertIs(is_parting(one, seen, wish, case), parts)
                self.assertFalse(told is None and parts)
                if becomes(wish, *case) and nearest(one, *case)[0] == "row":
                    held += 1
                    self.assertIn(nearest(one, *case)[1], [one.rows[k][0] for k in rows])
        self.assertGreater(min(parted, held), 20)
