"""[7.1]: what can be chosen ahead of filling."""

import itertools
import random
import unittest

from nearestkinds.early import early, is_two, two
from nearestkinds.errors import NotClear, NoWish, TooMany
from nearestkinds.tables import Table
from nearestkinds.views import view
from tests.great import PARTS_200, PARTS_201, SORTS_OF_CASES, cases_2000
from tests.samples import STRANGE, chain, is_instance, shallow
from tests.slow import (A, B, C, DESK, INT, KIND, SORTS, becomes, both, claim, either, is_pair, new, other_things, pair,
                        ptr, slow_choice, slow_meets, slow_plain, some_bundle, some_clear, some_demand, some_facts,
                        some_use, table, wish_cases)

EVEN, ODD = claim("even", 0), claim("odd", 0)
TWO = ("kind", "kind")
UNCLEAR = table(TWO, (INT, A), (A, INT))
ONE = table(KIND, (A,), (ptr(A),), [(ptr(A),), EVEN], (ptr(INT),))


class EarlyTest(unittest.TestCase):
    def told(self, one, wish, choice):
        """The early choice; where there is none, two that are unlike."""
        self.assertEqual(early(one, wish), choice, wish)
        self.assertEqual(early(one, wish), choice, wish)
        told = two(one, wish)
        if choice is not None:
            self.assertIsNone(told, wish)
        else:
            self.assertEqual(two(one, wish), told)
            self.assertTrue(type(told) is tuple and len(told) == 2 and all(type(case) is tuple for case in told))
            self.assertTrue(all(becomes(wish, *case) for case in told))
            self.assertNotEqual(*[slow_choice(one.rows, *case) for case in told])
            self.assertIs(is_two(one, wish, told), True)
            self.assertIs(is_two(one, wish, told[::-1]), True)

    def test_all_agree(self):
        for wish, choice in [
            (((INT,), None), "a"), (((pair(A, B),), None), "a"), (((pair(A, B),), EVEN), "a"),
            (((ptr(INT),), None), "d"), (((("mode", A, B),), None), "a"),
        ]:
            self.told(ONE, wish, ("row", choice))
        self.told(table(KIND, (A,)), ((A,), None), ("row", "a"))
        self.told(table(TWO, (A, A), (A, B)), ((ptr(A), ptr(A)), None), ("row", "a"))
        self.told(table(TWO, (A, A), (A, B)), ((A, ptr(A)), None), ("row", "b"))

    def test_some_do_not(self):
        for wish in [((A,), None), ((A,), EVEN), ((ptr(A),), None), ((ptr(A),), EVEN), ((ptr(ptr(A)),), None),
                     ((ptr(pair(INT, INT)),), None)]:
            self.told(ONE, wish, None)
        self.told(table(TWO, (A, A), (A, B)), ((A, B), None), None)
        self.told(table(TWO, (A, A), (A, B)), ((ptr(A), B), None), None)

    def test_none(self):
        self.told(Table(DESK, KIND, ()), ((A,), None), ("none",))
        one = table(KIND, (ptr(A),), [(pair(A, B),), both(EVEN, ODD)])
        self.told(one, ((INT,), None), ("none",))
        self.told(one, ((("mode", A, B),), claim("even", 1)), ("none",))
        self.told(one, ((A,), None), None)
        self.told(one, ((pair(INT, A),), None), None)
        self.told(table(TWO, (A, A)), ((A, ptr(A)), None), ("none",))

    def test_the_wish_demands(self):
        one = table(KIND, (ptr(A),), [(ptr(A),), EVEN], [(ptr(A),), both(EVEN, ODD)])
        self.told(one, ((ptr(A),), None), None)
        self.told(one, ((ptr(A),), EVEN), None)
        self.told(one, ((ptr(A),), ODD), None)
        self.told(one, ((ptr(A),), both(ODD, EVEN)), ("row", "c"))
        self.told(one, ((ptr(("?", 999)),), both(claim("odd", 999), claim("even", 999))), ("row", "c"))
        self.told(one, ((ptr(A),), either(both(ODD, EVEN), claim("good", 0))), None)
        self.told(one, ((ptr(ptr(A)),), both(ODD, EVEN)), None)
        one = table(TWO, (A, B), [(A, B), EVEN])
        self.told(one, ((A, A), EVEN), ("row", "b"))
        self.told(one, ((A, B), EVEN), ("row", "b"))
        self.told(one, ((A, B), claim("even", 1)), None)
        self.told(one, ((B, A), claim("even", 1)), ("row", "b"))

    def test_one_word(self):
        one = table(("size", "flag", "kind"), (A, B, C), ("middle", "no", A))
        self.told(one, ((A, "yes", B), None), ("row", "a"))
        self.told(one, (("small", A, B), None), ("row", "a"))
        self.told(one, ((A, "no", B), None), None)
        self.told(one, (("middle", A, B), None), None)
        self.told(one, (("middle", "no", B), None), ("row", "b"))
        one = table(("flag",), ("yes",), ("no",), (A,))
        self.told(one, ((A,), None), None)
        self.told(one, (("no",), None), ("row", "b"))
        one = table(("flag", "flag"), ("yes", "yes"), ("no", "no"), (A, A))
        self.told(one, ((A, A), None), None)

    def test_one_number(self):
        one = table(("number", "number"), (A, B), (7, A))
        self.told(one, ((6, A), None), ("row", "a"))
        self.told(one, ((7, A), None), ("row", "b"))
        self.told(one, ((A, 6), None), None)
        self.told(one, ((A, A), None), None)
        one = table(("number", "number"), (A, B), (A, A))
        self.told(one, ((3, A), None), None)
        self.told(one, ((0, A), None), None)
        self.told(one, ((3, 4), None), ("row", "a"))
        self.told(one, ((3, 3), None), ("row", "b"))
        self.told(one, ((A, A), None), ("row", "b"))

    def test_one_fact(self):
        one = table(KIND, (A,), [(A,), both(both(EVEN, ODD), both(claim("good", 0), claim("bad", 0)))])
        self.told(one, ((INT,), None), None)
        self.told(one, ((A,), both(both(EVEN, ODD), claim("good", 0))), None)
        self.told(one, ((A,), both(both(EVEN, ODD), both(claim("good", 0), claim("bad", 0)))), ("row", "b"))

    def test_errors_in_their_order(self):
        wrong = STRANGE + [((new(0),), None), ((A, B), None), ((A,), claim("even", 1)), ((chain(5, A),), None), (A,)]
        right = (((ptr(INT),), ()), ((INT,), ()))
        calls = [early, two, lambda one, wish: is_two(one, wish, right), lambda one, wish: is_two(one, wish, None)]
        for wish in wrong:
            for call in calls:
                with self.assertRaises(NotClear):
                    call(UNCLEAR, wish)
                with self.assertRaises(NoWish):
                    shallow(call, ONE, wish)
        with self.assertRaises(NotClear):
            early(UNCLEAR, ((A, A), None))

    def test_too_many(self):
        one = table(("kind",) * 4, PARTS_200[1])
        self.told(one, (PARTS_200[0], None), None)
        one = table(("kind",) * 4, PARTS_201[1])
        great = Table(DESK, SORTS_OF_CASES, cases_2000())
        self.told(great, (("yes", B, C), claim("bad", 1)), None)
        for each, wish in [(one, (PARTS_201[0], None)), (great, ((A, B, C), claim("even", 1))),
                           (great, (("yes", B, C), both(claim("bad", 1), claim("good", 1))))]:
            for call in (early, two):
                with self.assertRaises(TooMany) as told:
                    call(each, wish)
                self.assertEqual(told.exception.most, 2000)
            self.assertIs(is_two(each, wish, None), False)
        facts = (("bad", INT), ("good", INT))
        self.assertIs(is_two(great, (("yes", B, C), both(claim("bad", 1), claim("good", 1))),
                             ((("yes", INT, 3), facts), (("yes", INT, 4), facts))), False)
        kind = ("tri", INT, INT, INT)
        facts = (("bad", kind), ("good", kind))
        self.assertIs(is_two(great, (("yes", B, C), both(claim("bad", 1), claim("good", 1))),
                             ((("yes", kind, 7), facts), (("yes", kind, 50), facts))), True)

    def test_judged(self):
        wish = ((ptr(A),), ODD)
        one, other = ((ptr(INT),), (("odd", INT),)), ((ptr(new(7)),), (("odd", new(7)),))
        third = ((ptr(new(7)),), (("even", new(7)), ("odd", new(7))))
        for thing, told in [
            ((one, other), True), ((other, one), True), ((one, third), True), ((other, third), True),
            ((one, one), False), ((other, other), False),
            ((third, ((ptr(ptr(INT)),), (("odd", ptr(INT)), ("even", ptr(INT))))), False),
            ([one, other], False), ((one,), False), ((one, other, third), False), (one, False),
            ((list(one), other), False), ((one, list(other)), False), ((one, (other[0], ())), False),
            ((one, (other[0], (("even", new(7)),))), False),
            ((one, ((INT,), other[1])), False), ((one, (other[0], (("odd", new(8)),))), False), ((one, None), False),
            ((one, ((ptr(A),), other[1])), False), ((one, (other[0], other[1] + (("odd", A),))), False), (None, False),
            ((one, (other[0],)), False), ((one, other + ((),)), False), ((one, (list(other[0]), other[1])), False),
            ((one, (other[0], list(other[1]))), False), ((one, (other[0], other[1] * 200)), True),
            ((one, (other[0], other[1] * 201)), False), ({0: one, 1: other}, False),
        ]:
            self.assertIs(is_two(ONE, wish, thing), told, thing)
        for thing in STRANGE:
            self.assertIs(is_two(ONE, wish, thing), False)
            self.assertIs(is_two(ONE, wish, (one, thing)), False)
            self.assertIs(is_two(ONE, wish, (thing, other)), False)
            self.assertIs(is_two(ONE, wish, ((thing, one[1]), other)), False)
            self.assertIs(is_two(ONE, wish, (one, (other[0], thing))), False)
        for thing in other_things((one, third), [None, True, 0, "odd", "even", INT, A, new(0), [], (), one]):
            told = type(thing) is tuple and len(thing) == 2
            told = told and all(is_pair(ONE, each) and becomes(wish, *each) for each in thing)
            told = told and slow_choice(ONE.rows, *thing[0]) != slow_choice(ONE.rows, *thing[1])
            self.assertIs(is_two(ONE, wish, thing), told, thing)

    def test_deep(self):
        one, other = ((chain(199, INT),), ()), ((chain(199, new(0)),), (("even", chain(198, new(0))),))
        self.assertIs(shallow(is_two, ONE, ((ptr(A),), None), (one, other)), True)
        self.assertIs(shallow(is_two, ONE, ((ptr(A),), None), (one, one)), False)
        self.assertIs(shallow(is_two, ONE, ((ptr(A),), EVEN), (one, other)), False)
        self.assertEqual(shallow(early, ONE, ((chain(4, INT),), None)), None)

    def test_an_early_row(self):
        """The wish as it stands is an instance of an early row's patterns; and the view has no other row."""
        chance = random.Random(81)
        seen = 0
        for _ in range(150):
            sorts = chance.choice(SORTS)
            one = some_clear(chance, sorts, 4)
            bundle = chance.choice([some_bundle(chance, sorts, 3, 2)] + [row[1] for row in one.rows])
            told = early(one, (bundle, None))
            if told is not None and told[0] == "row":
                seen += 1
                row = [row for row in one.rows if row[0] == told[1]][0]
                self.assertTrue(is_instance(bundle, row[1]))
                self.assertEqual([one.rows[k] for k in view(one, (bundle, None))], [row])
        self.assertGreater(seen, 10)

    def test_random(self):
        chance = random.Random(82)
        seen = {}
        for _ in range(150):
            sorts = chance.choice(SORTS)
            one = some_clear(chance, sorts, 4)
            bundle = chance.choice([some_bundle(chance, sorts, 3, 2)] + [row[1] for row in one.rows])
            wish = (bundle, some_demand(chance, bundle, sorts, 2))
            chosen = {slow_choice(one.rows, *case) for case in wish_cases(one, wish) if becomes(wish, *case)}
            told = chosen.pop() if len(chosen) == 1 else None
            self.told(one, wish, told)
            seen[told and told[0]] = seen.get(told and told[0], 0) + 1
            may = []
            for _ in range(6):
                use = some_use(chance, one, chance.choice(slow_meets(slow_plain(bundle), one.rows)))
                case = (use, some_facts(chance, use))
                if becomes(wish, *case):
                    may.append(case)
                    self.assertTrue(told is None or slow_choice(one.rows, *case) == told)
            for here, there in itertools.combinations(may, 2):
                differ = slow_choice(one.rows, *here) != slow_choice(one.rows, *there)
                self.assertIs(is_two(one, wish, (here, there)), differ)
        self.assertGreater(min(seen[told] for told in (None, "row", "none")), 20)
