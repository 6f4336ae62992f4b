"""[2.1]: facts and demands."""

import itertools
import random
import unittest

from nearestkinds.demands import holds, implied, is_facts, neat
from tests.samples import STRANGE, chain, row, shallow, wide
from tests.slow import (A, DESK, INT, B, both, claim, claims_of, either, lots_of, new, other_things, pair, ptr,
                        slow_holds, slow_neat)

EVEN = [claim("even", n) for n in range(4)]
ODD = [claim("odd", n) for n in range(4)]
EIGHT = EVEN + ODD


def all_demands(claims, deep):
    """All demands of some claims, at most so deep, None not among them."""
    told = list(claims)
    for _ in range(deep - 1):
        told = list(claims) + [make(*two) for make in (both, either) for two in itertools.product(told, told)]
    return told


def some_demand(chance, claims, deep):
    """A demand of exactly so deep."""
    if deep == 1:
        return chance.choice(claims)
    parts = [some_demand(chance, claims, deep - 1), some_demand(chance, claims, chance.randrange(1, deep))]
    chance.shuffle(parts)
    return (chance.choice(["both", "either"]), *parts)


def full(make, other, claims):
    """A demand four deep about eight claims."""
    twos = [make(*claims[k:k + 2]) for k in range(0, 8, 2)]
    return make(other(*twos[:2]), other(*twos[2:]))


def turned(demand):
    """A demand with both sides turned about everywhere."""
    return demand if demand[0] == "claim" else (demand[0], turned(demand[2]), turned(demand[1]))


class FactsTest(unittest.TestCase):
    def told(self, thing):
        told = shallow(is_facts, DESK, thing)
        self.assertIs(type(told), bool)
        return told

    def test_facts(self):
        for thing in [
            (), (("even", INT),), (("even", INT), ("even", INT)), (("odd", new(0)), ("even", new(10 ** 20))),
            (("good", ptr(INT)), ("bad", ("opt", "yes", -5, new(1))), ("good", ("mode", "large", INT))),
            (("even", ("opt", "no", 10 ** 19, INT)),),
        ]:
            self.assertTrue(self.told(thing), thing)

    def test_no_facts(self):
        for thing in [
            [("even", INT)], (["even", INT],), ("even", INT), (("even", [INT]),), (("even",),), (("even", INT, INT),),
            (("small", INT),), (("flag", INT),), (("Even", INT),), ((b"even", INT),), (("even", A),),
            (("even", ptr(A)),),
            (("even", ("opt", A, 3, INT)),), (("even", ("opt", "yes", A, INT)),), (("even", 3),), (("even", True),),
            (("even", "yes"),), (("even", None),), (("even", ("~", True)),), (("even", ("~", -1)),),
            (("even", ("~",)),), (("even", ("~", 0, 0)),), (("even", ("~", "0")),),
            (("even", ("opt", "small", 3, INT)),),
            (("even", ("opt", "yes", True, INT)),), (("even", ("opt", "yes", "no", INT)),), (("even", ("ptr",)),),
            (("even", ("nohead",)),), (("even", ("mode", "yes", INT)),), (("even", ("int", INT)),), {"even": INT},
            (("even", INT), None), (("even", INT), ("even", A)), ((INT, "even"),), (("even", ()),), ((),),
        ]:
            self.assertFalse(self.told(thing), thing)

    def test_two_hundred(self):
        for one in ([("even", INT)], [("even", new(n)) for n in range(201)], [("odd", chain(30, INT))]):
            many = one * 201
            self.assertTrue(self.told(tuple(many[:200])))
            self.assertFalse(self.told(tuple(many[:201])))
            self.assertFalse(self.told(many[:200]))

    def test_behind_hundreds_that_are(self):
        for wrong in [("even", A), ("even", ("~", False)), ("none", INT), None, ("even", ptr(3)), ["even", INT]]:
            for place in (0, 100, 198, 199):
                right = [("even", new(n)) for n in range(199)]
                self.assertTrue(self.told(tuple(right)))
                right.insert(place, wrong)
                self.assertFalse(self.told(tuple(right)))

    def test_strange_things(self):
        kinds = [INT]
        for thing in STRANGE:
            if thing != ():
                self.assertFalse(self.told(thing))
            self.assertFalse(self.told((thing,)))
            self.assertFalse(self.told(((thing, INT),)))
            self.assertEqual(self.told((("even", thing),)), thing in kinds if type(thing) is tuple else False)
            self.assertFalse(self.told((("even", INT), ("odd", ptr(thing)), thing)))

    def test_one_thing_otherwise_at_any_place(self):
        right = (("even", ("opt", "yes", 3, ptr(INT))), ("odd", new(2)))
        self.assertTrue(self.told(right))
        for thing in other_things(right, [None, True, 4, -1, "no", "even", A, ("~", True), [], INT, "large"]):
            told = type(thing) is tuple
            if told:
                for fact in thing:
                    told = told and type(fact) is tuple and len(fact) == 2 and fact[0] in ("even", "odd")
                    told = told and self.is_kind(fact[1])
            self.assertEqual(self.told(thing), told, thing)

    def is_kind(self, thing):
        if type(thing) is not tuple or not thing:
            return False
        if thing[0] == "~":
            return len(thing) == 2 and type(thing[1]) is int and thing[1] >= 0
        if thing[0] == "opt":
            return (len(thing) == 4 and thing[1] in ("yes", "no") and type(thing[2]) is int and self.is_kind(thing[3]))
        return thing == INT or len(thing) == 2 and thing[0] == "ptr" and self.is_kind(thing[1])

    def test_deep_and_wide(self):
        for deep in (200, 300, 5000):
            self.assertTrue(self.told((("even", chain(deep - 1, INT)),)))
            self.assertFalse(self.told((("even", chain(deep - 1, A)),)))
            self.assertFalse(self.told((("even", chain(deep - 1, 3)),)))
        self.assertTrue(self.told((("even", wide(1999)),) * 20))
        self.assertFalse(self.told((("even", row([INT] * 999 + [A])),)))


class HoldsTest(unittest.TestCase):
    def test_ordinary(self):
        facts = (("even", INT), ("odd", ptr(INT)), ("even", new(0)))
        filling = {0: INT, 1: ptr(INT), 2: 3, 3: "yes"}
        for demand, told in [
            (None, True), (claim("even", 0), True), (claim("even", 1), False), (claim("odd", 1), True),
            (claim("odd", 0), False), (both(claim("even", 0), claim("odd", 1)), True),
            (both(claim("even", 0), claim("odd", 0)), False), (either(claim("even", 1), claim("odd", 1)), True),
            (either(claim("even", 1), claim("odd", 0)), False), (both(claim("even", 1), claim("even", 0)), False),
            (either(both(claim("even", 0), claim("odd", 0)), both(claim("odd", 1), claim("even", 0))), True),
            (both(either(claim("even", 0), claim("odd", 0)), either(claim("even", 1), claim("odd", 0))), False),
        ]:
            self.assertIs(holds(demand, filling, facts), told, demand)
            self.assertIs(holds(demand, filling, facts[::-1] + facts), told, demand)
        self.assertEqual(filling, {0: INT, 1: ptr(INT), 2: 3, 3: "yes"})

    def test_no_facts(self):
        self.assertIs(holds(None, {}, ()), True)
        self.assertIs(holds(EVEN[0], {0: INT}, ()), False)
        self.assertIs(holds(EVEN[0], {0: INT}, (("odd", INT),)), False)
        self.assertIs(holds(EVEN[0], {0: INT}, (("even", ptr(INT)),)), False)
        self.assertIs(holds(EVEN[0], {0: new(1)}, (("even", new(0)), ("even", new(10)))), False)

    def test_unknowns_for_which_nothing_is_put(self):
        self.assertIs(holds(EVEN[1], {0: INT}, (("even", INT),)), False)
        self.assertIs(holds(either(EVEN[1], EVEN[0]), {0: INT}, (("even", INT),)), True)

    def test_one_kind_for_two_unknowns(self):
        self.assertIs(holds(both(EVEN[0], EVEN[1]), {0: INT, 1: INT}, (("even", INT),)), True)
        self.assertIs(holds(both(EVEN[0], EVEN[1]), {0: INT, 1: new(3)}, (("even", INT),)), False)

    def test_deep_kinds(self):
        filling = {0: chain(199, INT), 1: chain(199, new(0)), 2: wide(1999)}
        facts = tuple(("even", chain(n, INT)) for n in range(199, 0, -1)) + (("even", wide(1999)),)
        self.assertIs(shallow(holds, both(EVEN[0], EVEN[2]), filling, facts), True)
        self.assertIs(shallow(holds, both(EVEN[0], EVEN[1]), filling, facts), False)

    def test_by_all_facts(self):
        kinds = [INT, ptr(INT), new(0), new(1)]
        chance = random.Random(21)
        for deep in (1, 2, 3, 4, 4, 4):
            demand = some_demand(chance, EIGHT, deep)
            for lot in lots_of([part[1:] for part in EIGHT]):
                facts = tuple((name, kinds[n]) for name, n in lot)
                self.assertIs(holds(demand, dict(enumerate(kinds)), facts), slow_holds(demand, set(lot)))


class NeatTest(unittest.TestCase):
    def test_ordinary(self):
        self.assertEqual(neat(None), ((),))
        self.assertEqual(neat(claim("even", 3)), ((("even", 3),),))
        self.assertEqual(neat(both(ODD[1], EVEN[2])), ((("even", 2), ("odd", 1)),))
        self.assertEqual(neat(either(ODD[1], EVEN[2])), ((("even", 2),), (("odd", 1),)))
        self.assertEqual(neat(both(EVEN[1], EVEN[1])), ((("even", 1),),))
        self.assertEqual(neat(either(EVEN[1], EVEN[1])), ((("even", 1),),))
        self.assertEqual(neat(either(EVEN[1], both(EVEN[1], ODD[0]))), ((("even", 1),),))
        self.assertEqual(neat(both(EVEN[1], either(EVEN[1], ODD[0]))), ((("even", 1),),))
        self.assertEqual(neat(both(either(EVEN[0], ODD[0]), either(EVEN[0], ODD[1]))),
                         ((("even", 0),), (("odd", 0), ("odd", 1))))
        self.assertEqual(neat(either(claim("even", 10), claim("even", 9))), ((("even", 9),), (("even", 10),)))
        self.assertEqual(neat(both(claim("odd", 10), claim("odd", 9))), ((("odd", 9), ("odd", 10)),))

    def test_eight_claims_four_deep(self):
        lots = neat(full(either, both, EIGHT))
        self.assertEqual(len(lots), 8)
        lots = neat(both(full(either, both, EIGHT)[1], full(either, both, EIGHT)[2]))
        self.assertEqual(len(lots), 16)
        self.assertEqual(neat(full(both, both, EIGHT)), (tuple(sorted(part[1:] for part in EIGHT)),))
        self.assertEqual(neat(full(either, either, EIGHT)), tuple(sorted((part[1:],) for part in EIGHT)))
        for one, other in itertools.product((both, either), repeat=2):
            demand = full(one, other, EIGHT)
            self.assertEqual(neat(demand), slow_neat(demand))
            self.assertEqual(neat(turned(demand)), neat(demand))
            twice = full(one, other, EIGHT[:4] * 2)
            self.assertEqual(neat(twice), slow_neat(twice))

    def test_small_ones(self):
        for demand in all_demands([EVEN[0], ODD[0], EVEN[1]], 3)[::5]:
            told = neat(demand)
            self.assertEqual(told, slow_neat(demand), demand)
            self.assertTrue(type(told) is tuple and all(type(lot) is tuple for lot in told))

    def test_random(self):
        chance = random.Random(22)
        for _ in range(120):
            demand = some_demand(chance, EIGHT[:chance.randrange(2, 9)], 4)
            self.assertEqual(neat(demand), slow_neat(demand), demand)
            self.assertEqual(neat(turned(demand)), slow_neat(demand), demand)

    def test_somewhat_deeper(self):
        claims = [claim(name, n) for name in ("even", "odd", "good", "bad") for n in range(4)]
        demand = both(full(either, both, claims[:8]), full(either, both, claims[8:]))
        self.assertEqual(len(neat(demand)), 64)
        self.assertEqual(len(neat(either(demand[1], demand[2]))), 16)
        line = EVEN[0]
        for _ in range(300):
            line = both(line, either(ODD[0], EVEN[0]))
        self.assertEqual(shallow(neat, line), ((("even", 0),),))
        self.assertIs(shallow(holds, line, {0: INT}, (("even", INT),)), True)


class ImpliedTest(unittest.TestCase):
    def test_ordinary(self):
        for one, other, told in [
            (None, None, True), (EVEN[0], None, True), (None, EVEN[0], False), (EVEN[0], EVEN[0], True),
            (EVEN[0], EVEN[1], False), (EVEN[0], ODD[0], False), (both(EVEN[0], ODD[0]), EVEN[0], True),
            (EVEN[0], both(EVEN[0], ODD[0]), False), (EVEN[0], either(ODD[0], EVEN[0]), True),
            (either(ODD[0], EVEN[0]), EVEN[0], False), (both(EVEN[0], ODD[0]), both(ODD[0], EVEN[0]), True),
            (both(EVEN[0], either(ODD[0], ODD[1])), either(both(EVEN[0], ODD[0]), both(EVEN[0], ODD[1])), True),
            (either(both(EVEN[0], ODD[0]), both(EVEN[0], ODD[1])), both(EVEN[0], either(ODD[0], ODD[1])), True),
            (both(EVEN[0], either(EVEN[0], ODD[1])), EVEN[0], True),
        ]:
            self.assertIs(implied(one, other), told, (one, other))

    def test_by_all_facts(self):
        demands = [None] + all_demands([EVEN[0], ODD[0], EVEN[1]], 3)[::23]
        lots = [set(lot) for lot in lots_of([("even", 0), ("odd", 0), ("even", 1)])]
        told = [[slow_holds(demand, lot) for lot in lots] for demand in demands]
        for (one, here), (other, there) in itertools.product(zip(demands, told), repeat=2):
            self.assertIs(implied(one, other), all(b or not a for a, b in zip(here, there)), (one, other))

    def test_four_deep(self):
        chance = random.Random(23)
        for _ in range(60):
            one, other = (some_demand(chance, EIGHT[2:6], 4) for _ in range(2))
            lots = [set(lot) for lot in lots_of([part[1:] for part in EIGHT[2:6]])]
            told = all(slow_holds(other, lot) for lot in lots if slow_holds(one, lot))
            self.assertIs(implied(one, other), told, (one, other))
            self.assertTrue(implied(one, either(other, one)) and implied(both(other, one), one))

    def test_the_fact_of_demands(self):
        chance = random.Random(24)
        for _ in range(200):
            one, other = (some_demand(chance, EIGHT[:5], chance.randrange(1, 5)) for _ in range(2))
            by_lots = all(any(set(own) <= set(lot) for own in neat(other)) for lot in neat(one))
            self.assertEqual(implied(one, other), by_lots)
            kinds = {n: new(n) for n in range(4)}
            for facts in lots_of(sorted(set(claims_of(one) + claims_of(other)))):
                facts = tuple((name, kinds[n]) for name, n in facts)
                if by_lots and holds(one, kinds, facts):
                    self.assertTrue(holds(other, kinds, facts))

    def test_needless_parts(self):
        chance = random.Random(25)
        for _ in range(100):
            demand = some_demand(chance, EIGHT, 3)
            for needless in (both(demand, demand), either(demand, demand), turned(demand)):
                self.assertTrue(implied(demand, needless) and implied(needless, demand))


class KindsOfFactsTest(unittest.TestCase):
    def test_pairs_are_of_kinds(self):
        for thing in (pair(INT, INT), pair(new(0), new(0)), ("mode", "small", INT)):
            self.assertTrue(is_facts(DESK, (("even", thing),)))
        for thing in (pair(INT, B), pair(INT, 0), pair(INT, "yes")):
            self.assertFalse(is_facts(DESK, (("even", thing),)))
