"""[1.3], [1.4]: filling, matching, plain bundles, meets and what is common."""

import functools
import itertools
import random
import time
import unittest

from nearestkinds.errors import TooMany
from nearestkinds.patterns import common, filled, matched, meet, plain
from nearestkinds.things import is_bundle
from tests.samples import (BOOK, chain, count, is_instance, random_bundle, random_sorts, renamed, row, shallow,
                           slow_common, slow_match, slow_meet, slow_plain, wide)

A, B, C, D = ("?", 0), ("?", 1), ("?", 2), ("?", 3)
INT = ("int",)


def ptr(thing):
    return ("ptr", thing)


def pair(one, other):
    return ("pair", one, other)


@functools.cache
def small_bundles():
    """All plain bundles of two kinds with few parts, and some with numbers and words."""
    things = [INT, ("~", 0), ("~", 1), A, B, C]
    things += [ptr(thing) for thing in things] + [pair(one, other) for one in things[3:5] for other in things[:5]]
    found = {}
    for one, other in itertools.product(things, things):
        if count(one) + count(other) <= 4:
            found[slow_plain((one, other))] = True
    return list(found)


def samples(seed, many):
    """Pairs of random bundles of the same sorts, behind their sorts."""
    chance = random.Random(seed)
    for _ in range(many):
        sorts = random_sorts(chance)
        deep, unknowns = chance.randrange(1, 5), chance.randrange(1, 4)
        one = random_bundle(chance, sorts, deep, unknowns)
        # Often the other one is made of the first, so that there is something to find.
        other = random_bundle(chance, sorts, deep, unknowns)
        if chance.random() < 0.5:
            other = tuple(renamed(thing, {n: ("~", 1) for n in (0, 1)}) for thing in one)
        yield sorts, one, other


class FilledTest(unittest.TestCase):
    def test_ordinary(self):
        self.assertEqual(filled((A,), {0: INT}), (INT,))
        told = filled((pair(A, B), ("array", A, C)), {0: ptr(INT), 2: 7})
        self.assertEqual(told, (pair(ptr(INT), B), ("array", ptr(INT), 7)))
        self.assertEqual(filled((A, "yes", -3), {}), (A, "yes", -3))
        self.assertEqual(filled((("mode", A, B, C),), {0: "no", 1: INT, 2: "large"}), (("mode", "no", INT, "large"),))
        self.assertEqual(filled((A, B), {0: 0, 1: ""}), (0, ""))

    def test_all_at_once(self):
        self.assertEqual(filled((pair(A, B),), {0: B, 1: A}), (pair(B, A),))
        self.assertEqual(filled((A, B), {0: ptr(A), 1: pair(A, B)}), (ptr(A), pair(A, B)))
        self.assertEqual(filled((A, ptr(A)), {0: pair(A, A), 1: INT}), (pair(A, A), ptr(pair(A, A))))

    def test_numbers_that_stand_nowhere(self):
        self.assertEqual(filled((ptr(A), ("~", 1), 2), {1: INT, 2: 5, 3000: INT}), (ptr(A), ("~", 1), 2))

    def test_arguments_stay(self):
        bundle, filling = (pair(A, B),), {0: B, 7: INT}
        filled(bundle, filling)
        self.assertEqual((bundle, filling), ((pair(A, B),), {0: B, 7: INT}))

    def test_random(self):
        for _, one, _ in samples(1, 300):
            filling = {0: ptr(A), 1: pair(B, A), 100: ("?", 101), 101: 4, 200: "yes", 301: ("?", 300)}
            self.assertEqual(filled(one, filling), tuple(renamed(thing, filling) for thing in one))

    def test_deep_and_wide(self):
        told = shallow(filled, (chain(199, A),), {0: chain(199, B)})
        self.assertEqual(told, (chain(398, B),))
        self.assertEqual(shallow(filled, (row([A] * 999),), {0: wide(1999)}), (row([wide(1999)] * 999),))


class MatchedTest(unittest.TestCase):
    def test_ordinary(self):
        self.assertEqual(matched((A,), (INT,)), {0: INT})
        self.assertEqual(matched((INT,), (INT,)), {})
        self.assertEqual(matched((INT,), (A,)), None)
        self.assertEqual(matched((ptr(A), B), (ptr(ptr(B)), 4)), {0: ptr(B), 1: 4})
        self.assertEqual(matched((ptr(A),), (pair(A, A),)), None)
        self.assertEqual(matched(("yes", 3), ("yes", 3)), {})
        self.assertEqual(matched(("yes", 3), ("no", 3)), None)
        self.assertEqual(matched(("yes", 3), ("yes", 4)), None)
        self.assertEqual(matched((3,), (A,)), None)
        self.assertEqual(matched((("~", 0),), (("~", 1),)), None)
        self.assertEqual(matched((("~", 0),), (("~", 0),)), {})
        self.assertEqual(matched((("~", 0),), (("?", 0),)), None)
        self.assertEqual(matched((INT,), (("~", 0),)), None)

    def test_an_unknown_twice(self):
        self.assertEqual(matched((A, A), (ptr(INT), ptr(INT))), {0: ptr(INT)})
        self.assertEqual(matched((A, A), (ptr(INT), ptr(A))), None)
        self.assertEqual(matched((A, A), (B, B)), {0: B})
        self.assertEqual(matched((A, A), (A, B)), None)
        self.assertEqual(matched((A, B), (A, A)), {0: A, 1: A})
        self.assertEqual(matched((pair(A, ptr(A)),), (pair(ptr(A), ptr(ptr(A))),)), {0: ptr(A)})
        self.assertEqual(matched((("array", INT, A), A), (("array", INT, 3), 4)), None)

    def test_unknowns_of_both_are_unlike(self):
        self.assertEqual(matched((A, INT), (ptr(A), INT)), {0: ptr(A)})
        self.assertEqual(matched((A, INT), (INT, A)), None)

    def test_new_dicts(self):
        told = matched((A,), (INT,))
        told[5] = INT
        self.assertEqual(matched((A,), (INT,)), {0: INT})

    def test_random(self):
        for sorts, one, other in samples(2, 2000):
            found = {}
            fits = all([slow_match(thing, part, found) for thing, part in zip(one, other)])
            told = matched(one, other)
            self.assertEqual(told, found if fits else None)
            if told is not None:
                self.assertEqual(filled(one, told), other)
                self.assertTrue(is_bundle(BOOK, sorts, filled(one, told)))

    def test_deep_and_wide(self):
        self.assertEqual(shallow(matched, (A, A), (chain(199, INT), chain(199, INT))), {0: chain(199, INT)})
        self.assertEqual(shallow(matched, (A, A), (chain(199, INT), chain(199, A))), None)
        self.assertEqual(shallow(matched, (chain(100, A), A), (chain(199, INT), chain(99, INT))), {0: chain(99, INT)})
        self.assertEqual(shallow(matched, (row([A] * 900),), (row([INT] * 900),)), {0: INT})
        self.assertEqual(shallow(matched, (row([A] * 900),), (row([INT] * 899 + [A]),)), None)


class PlainTest(unittest.TestCase):
    def test_ordinary(self):
        self.assertEqual(plain((("?", 7), ("?", 3), ("?", 7))), (A, B, A))
        self.assertEqual(plain((pair(B, A), C, A)), (pair(A, B), C, B))
        self.assertEqual(plain((INT, 3, "yes", ("~", 7))), (INT, 3, "yes", ("~", 7)))
        self.assertEqual(plain((pair(pair(("?", 999), B), A), B)), (pair(pair(A, B), C), B))
        self.assertEqual(plain((("?", 5), ("array", ("?", 0), ("?", 5)))), (A, ("array", B, A)))

    def test_random(self):
        chance = random.Random(3)
        for sorts, one, _ in samples(3, 500):
            self.assertEqual(plain(one), slow_plain(one))
            self.assertEqual(plain(plain(one)), plain(one))
            numbers = list(range(1000))
            chance.shuffle(numbers)
            other = tuple(renamed(thing, {n: ("?", numbers[n]) for n in range(1000)}) for thing in one)
            self.assertTrue(is_bundle(BOOK, sorts, other))
            self.assertEqual(plain(other), plain(one))
            self.assertTrue(is_instance(one, plain(one)) and is_instance(plain(one), one))

    def test_deep_and_wide(self):
        self.assertEqual(shallow(plain, (chain(199, ("?", 9)),)), (chain(199, A),))
        unknowns = [("?", n) for n in range(1000)]
        self.assertEqual(shallow(plain, (row(unknowns[::-1]),)), (row(unknowns),))


class MeetTest(unittest.TestCase):
    def both_ways(self, one, other, told):
        self.assertEqual(shallow(meet, one, other), told)
        self.assertEqual(shallow(meet, other, one), told)

    def too_many(self, one, other):
        for here, there in ((one, other), (other, one)):
            with self.assertRaises(TooMany) as told:
                shallow(meet, here, there)
            self.assertEqual(told.exception.most, 200)

    def test_example(self):
        self.both_ways((A, INT), (INT, A), (INT, INT))

    def test_ordinary(self):
        self.both_ways((A,), (A,), (A,))
        self.both_ways((A,), (B,), (A,))
        self.both_ways((A, B), (A, A), (A, A))
        self.both_ways((pair(A, B),), (pair(ptr(A), ptr(A)),), (pair(ptr(A), ptr(A)),))
        self.both_ways((pair(A, A),), (pair(ptr(B), C),), (pair(ptr(A), ptr(A)),))
        self.both_ways((B, A), (ptr(A), A), (ptr(A), A))
        self.both_ways((pair(A, B), A), (C, ptr(D)), (pair(ptr(A), B), ptr(A)))
        self.both_ways((pair(A, B), A), (C, ptr(C)), None)
        self.both_ways((("mode", A, B, "small"),), (("mode", "yes", INT, A),), (("mode", "yes", INT, "small"),))
        self.both_ways((A, 3), (4, A), (4, 3))
        self.both_ways((A, A), (4, B), (4, 4))
        self.both_ways((("~", 4), A), (A, INT), (("~", 4), INT))

    def test_clashes(self):
        self.both_ways((INT,), (ptr(A),), None)
        self.both_ways((INT,), (("~", 0),), None)
        self.both_ways((("~", 1),), (("~", 0),), None)
        self.both_ways((3,), (4,), None)
        self.both_ways(("yes",), ("no",), None)
        self.both_ways((A, A), (INT, ptr(B)), None)
        self.both_ways((A, A), (3, 4), None)
        self.both_ways((pair(A, A),), (pair(ptr(B), pair(B, B)),), None)

    def test_within_itself(self):
        self.both_ways((A, A), (A, ptr(A)), None)
        self.both_ways((A, A, B, B), (B, ptr(C), C, ptr(B)), None)
        self.both_ways((A, B, A), (ptr(B), ptr(A), A), (ptr(A), ptr(ptr(A)), ptr(A)))
        self.both_ways((pair(A, ptr(A)),), (pair(B, B),), None)
        self.both_ways((A, A), (chain(150, B), B), None)

    def test_just_so_many_parts(self):
        for many in (1, 199):
            self.both_ways((A,), (wide(many),), (wide(many),))
        self.both_ways((A,), (chain(199, INT),), (chain(199, INT),))
        self.both_ways((A,), (chain(199, B),), (chain(199, A),))
        self.both_ways((A, A), (chain(99, INT), B), (chain(99, INT),) * 2)
        self.both_ways((A, A, B, B), (chain(49, INT), B, C, chain(49, D)), (chain(49, INT),) * 2 + (chain(49, A),) * 2)
        self.too_many((A, A, B, B), (chain(49, INT), B, C, chain(50, D)))
        self.too_many((A,), (chain(200, INT),))
        self.too_many((A,), (wide(201),))
        self.too_many((A,), (wide(1999),))
        self.too_many((A, A, B), (chain(99, INT), B, C))
        self.too_many((A, A), (chain(100, INT), B))
        self.both_ways((chain(98, A), A), (B, chain(50, C)), (chain(148, A), chain(50, A)))
        self.too_many((chain(99, A), A), (B, chain(50, C)))
        self.too_many((A, B), (wide(101), wide(101)))
        self.both_ways((A, B), (wide(101), wide(99)), (wide(101), wide(99)))
        self.too_many((wide(201),), (wide(201),))

    def test_unknowns_count_as_parts(self):
        unknowns = [("?", n) for n in range(101)]
        self.both_ways((row(unknowns[:100]),), (D,), (row(unknowns[:100]),))
        self.both_ways((row(unknowns[:100]), A), (A, B), (row(unknowns[:100]), A))
        self.too_many((row(unknowns[:100]), A, B), (A, B, B))
        self.too_many((row(unknowns),), (A,))

    def test_new_kinds_numbers_and_words_count_as_one_part(self):
        news = [("~", n) for n in range(101)]
        self.both_ways((row(news[:100]), A), (A, ("~", 7)), (row(news[:100]), ("~", 7)))
        self.too_many((row(news[:100]), A, B), (A, ("~", 7), ("~", 8)))
        self.too_many((row(news),), (A,))
        arrays = [("array", INT, n) for n in range(50)]
        self.both_ways((row(arrays), A), (A, 5), (row(arrays), 5))
        self.too_many((row(arrays), A, B), (A, 5, 6))
        modes = [("mode", "yes", INT, "small")] * 40
        self.both_ways((row(modes), A), (A, "no"), (row(modes), "no"))
        self.too_many((row(modes), A, B), (A, "no", "no"))

    def doubling(self, many, end, other_end):
        """Two bundles in which each unknown is twice the one ahead, and ends that are to be equal."""
        steps = [pair(("?", n), ("?", n)) for n in range(many)]
        return (A, A, end), (row([("?", n + 1) for n in range(many)]), row(steps), other_end)

    def test_doubling(self):
        self.both_ways(*self.doubling(1, INT, INT), slow_meet(*self.doubling(1, INT, INT)))
        self.both_ways(*self.doubling(3, INT, INT), slow_meet(*self.doubling(3, INT, INT)))
        for many in (12, 60, 190):
            started = time.monotonic()
            self.too_many(*self.doubling(many, INT, INT))
            self.both_ways(*self.doubling(many, INT, ptr(A)), None)
            self.assertLess(time.monotonic() - started, 20)

    def test_doubling_without_a_meet(self):
        """What is doubled many times on both sides clashes, or stands within itself, in its innermost part alone."""
        for many in (15, 90):
            steps = [pair(("?", n), ("?", n)) for n in range(many)]
            others = [pair(("?", 500 + n), ("?", 500 + n)) for n in range(many)]
            ups = [("?", n + 1) for n in range(many)] + [("?", 501 + n) for n in range(many)]
            for low, high, told in ((INT, ptr(INT), None), (("?", 400), ptr(("?", 400)), None)):
                held = row(ups + [("?", 0), ("?", 500), ("?", many)])
                is_so = row(steps + others + [low, high, ("?", 500 + many)])
                self.both_ways((A, A), (held, is_so), told)
            held = row(ups + [("?", 0), ("?", 500), ("?", many)])
            self.too_many((A, A), (held, row(steps + others + [INT, INT, ("?", 500 + many)])))

    def test_none_comes_ahead_of_too_many(self):
        self.both_ways((wide(1999), INT), (A, ptr(A)), None)
        self.both_ways((INT, wide(1999)), (ptr(A), A), None)
        self.both_ways((wide(1999), A, A), (A, B, ptr(B)), None)

    def test_random(self):
        told_some = 0
        for sorts, one, other in samples(4, 3000):
            told = slow_meet(one, other)
            if told is None or sum(map(count, told)) <= 200:
                self.assertEqual(meet(one, other), told)
                self.assertEqual(meet(other, one), told)
            else:
                self.too_many(one, other)
            if told is not None:
                told_some += 1
                self.assertTrue(is_bundle(BOOK, sorts, told))
        self.assertGreater(told_some, 1000)

    def test_instances_of_both_are_instances_of_the_meet(self):
        bundles = small_bundles()
        for one, other in itertools.combinations_with_replacement(bundles[::2], 2):
            told = meet(one, other)
            for thing in bundles[::3]:
                both = is_instance(thing, one) and is_instance(thing, other)
                self.assertEqual(both, told is not None and is_instance(thing, told), (one, other, thing))
            like = told is not None and is_instance(told, one) and is_instance(one, told)
            self.assertEqual(matched(other, one) is not None, like)

    def test_any_order(self):
        chance = random.Random(5)
        for _ in range(300):
            bundles = [random_bundle(chance, ("kind", "kind"), 3, 3) for _ in range(3)]
            told = []
            for order in itertools.permutations(bundles):
                met = functools.reduce(lambda one, other: one and meet(one, other), order)
                told.append(met and plain(met))
            self.assertEqual(told, [told[0]] * 6)

    def test_arguments_stay(self):
        one, other = (pair(A, B), A), (C, ptr(C))
        self.assertEqual(meet(one, other), meet(one, other))
        self.assertEqual((one, other), ((pair(A, B), A), (C, ptr(C))))


class CommonTest(unittest.TestCase):
    def both_ways(self, one, other, told):
        self.assertEqual(shallow(common, one, other), told)
        self.assertEqual(shallow(common, other, one), told)

    def test_example(self):
        self.both_ways((ptr(INT),), (ptr(ptr(INT)),), (ptr(A),))

    def test_ordinary(self):
        self.both_ways((INT,), (INT,), (INT,))
        self.both_ways((INT,), (ptr(INT),), (A,))
        self.both_ways((("~", 0),), (("~", 0),), (("~", 0),))
        self.both_ways((("~", 0),), (("~", 1),), (A,))
        self.both_ways((3, "yes"), (3, "no"), (3, A))
        self.both_ways((A,), (A,), (A,))
        self.both_ways((A, A), (A, A), (A, A))
        self.both_ways((A, B), (A, A), (A, B))
        self.both_ways((B, A), (B, A), (A, B))
        self.both_ways((A,), (INT,), (A,))
        self.both_ways((("mode", "yes", INT, "small"),), (("mode", "no", INT, "large"),), (("mode", A, INT, B),))

    def test_pairs_that_come_again(self):
        self.both_ways((INT, INT), (ptr(INT), ptr(INT)), (A, A))
        self.both_ways((INT, INT), (ptr(INT), pair(INT, INT)), (A, B))
        self.both_ways((INT, ptr(INT)), (ptr(INT), INT), (A, B))
        self.both_ways((INT, ptr(INT), INT), (ptr(INT), ptr(ptr(INT)), ptr(INT)), (A, ptr(A), A))
        self.both_ways((pair(INT, ("~", 1)), INT), (pair(("~", 2), INT), ("~", 2)), (pair(A, B), A))
        self.both_ways((pair(A, B), A), (pair(B, B), B), (pair(A, B), A))
        self.both_ways((3, ("array", INT, 3)), (4, ("array", INT, 4)), (A, ("array", INT, A)))
        self.both_ways((chain(50, INT), chain(50, INT)), (INT, INT), (A, A))
        self.both_ways((chain(50, INT), chain(50, INT)), (chain(50, A), chain(50, B)), (chain(50, A), chain(50, B)))

    def test_random(self):
        for sorts, one, other in samples(6, 3000):
            told = common(one, other)
            self.assertEqual(told, slow_common(one, other))
            self.assertTrue(is_bundle(BOOK, sorts, told))
            self.assertEqual(plain(common(other, one)), told)
            self.assertTrue(is_instance(one, told) and is_instance(other, told))

    def test_it_is_an_instance_of_all_others(self):
        bundles = small_bundles()
        for one, other in itertools.combinations_with_replacement(bundles[::2], 2):
            told = common(one, other)
            for thing in bundles[::3]:
                both = is_instance(one, thing) and is_instance(other, thing)
                self.assertEqual(both, is_instance(told, thing), (one, other, thing))

    def test_deep_and_wide(self):
        self.both_ways((chain(199, INT), ptr(INT)), (chain(199, ("~", 0)), ptr(("~", 0))), (chain(199, A), ptr(A)))
        things, others = [chain(k % 3, INT) for k in range(300)], [chain(k % 4, INT) for k in range(300)]
        self.both_ways((row(things),), (row(others),), slow_common((row(things),), (row(others),)))
        self.both_ways((wide(1999),), (wide(1999),), (wide(1999),))
        numbers = [("?", n) for n in range(999)]
        self.both_ways((row(numbers),), (row(numbers[::-1]),), (row(numbers),))
