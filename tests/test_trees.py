"""[8.1], [8.2]: trees of tests, where they lead, trees for tables, and where trees are wrong."""

import random
import unittest

from nearestkinds.errors import NoFacts, NotClear, NoTree, NoUse, TooMany
from nearestkinds.leaves import leaf_cases
from nearestkinds.tables import Table
from nearestkinds.trees import is_tree, is_wrong_at, led, tests, tree_for, wrong_at
from tests.great import PARTS_200, PARTS_201, SORTS_OF_CASES, cases_2000
from tests.samples import STRANGE, chain, shallow, slow_meet
from tests.slow import (A, B, C, DESK, INT, KIND, SORTS, all_cases, both, claim, either, is_pair, kinds_within, new,
                        other_things, pair, ptr, slow_cases, slow_choice, slow_meets, some_clear, some_facts, some_use,
                        table, top, tri)

TWO = ("kind", "kind")
NONE = ("none",)
EVEN, ODD = claim("even", 0), claim("odd", 0)
UNCLEAR = table(TWO, (INT, A), (A, INT))
ONE = table(KIND, (A,), (ptr(A),), [(ptr(A),), EVEN], (ptr(INT),))
MIXED = table(("flag", "number", "kind"), (A, B, C), ("yes", 3, C), ("no", B, pair(C, C)))


def leaf(label):
    return ("row", label)


def head(name, *path):
    return ("head", path, name)


def word(name, *path):
    return ("word", path, name)


def number(n, *path):
    return ("number", path, n)


def asks(name, *path):
    return ("claim", name, path)


def same(path, other):
    return ("same", path, other)


# A tree that is right for ONE.
RIGHT = (head("ptr", 0), (head("int", 0, 0), leaf("d"), (asks("even", 0, 0), leaf("c"), leaf("b"))), leaf("a"))


def slow_sort(one, yes, path):
    """The sort of what surely stands at a path, by calls within calls; None for no path."""
    if type(path) is not tuple or not path or any(type(step) is not int or step < 0 for step in path):
        return None
    if len(path) == 1:
        sorts = one.sorts
    else:
        sorts = dict(one.book.heads)[yes[path[:-1]]] if path[:-1] in yes else ()
        if slow_sort(one, yes, path[:-1]) is None:
            return None
    return sorts[path[-1]] if path[-1] < len(sorts) else None


def slow_test(one, yes, test):
    """Whether a thing is a test behind heads that are there."""
    if type(test) is not tuple or len(test) != 3 or type(test[0]) is not str:
        return False
    if test[0] == "claim":
        return type(test[1]) is str and test[1] in one.book.claims and slow_sort(one, yes, test[2]) == "kind"
    sort = slow_sort(one, yes, test[1])
    if test[0] == "same":
        return sort is not None and slow_sort(one, yes, test[2]) == sort and test[1] != test[2]
    if test[0] == "head":
        heads = [name for name, _ in one.book.heads]
        return sort == "kind" and type(test[2]) is str and test[2] in heads and test[1] not in yes
    if test[0] == "number":
        return sort == "number" and type(test[2]) is int
    return test[0] == "word" and sort in dict(one.book.lists) and type(test[2]) is str and (
        test[2] in dict(one.book.lists)[sort])


def slow_tree(one, thing, yes, deep):
    """Whether a thing is a tree behind heads that are there, at most so deep."""
    if type(thing) is not tuple or not deep:
        return False
    if len(thing) == 3:
        told = slow_test(one, yes, thing[0])
        more = {**yes, thing[0][1]: thing[0][2]} if told and thing[0][0] == "head" else yes
        return told and slow_tree(one, thing[1], more, deep - 1) and slow_tree(one, thing[2], yes, deep - 1)
    labels = [row[0] for row in one.rows]
    return thing == NONE or len(thing) == 2 and type(thing[1]) is str and thing[0] == "row" and thing[1] in labels


def stands(use, path):
    """What stands at a path of a use."""
    return use[path[0]] if len(path) == 1 else stands(use[path[0]][1:], path[1:])


def slow_way(tree, use, facts):
    """The tests that are asked, and the leaf, by calls within calls."""
    if len(tree) < 3:
        return [], tree
    what, one, other = tree[0]
    if what == "claim":
        yes = (one, stands(use, other)) in facts
    elif what == "same":
        yes = stands(use, one) == stands(use, other)
    else:
        yes = (stands(use, one)[0] if what == "head" else stands(use, one)) == other
    asked, end = slow_way(tree[1] if yes else tree[2], use, facts)
    return [tree[0]] + asked, end


def some_tree(chance, one, deep, yes=()):
    """A tree by chance."""
    known = dict(yes)
    paths = [(k,) for k in range(len(one.sorts))]
    paths += [path + (k,) for path in known for k in range(len(dict(one.book.heads)[known[path]]))]
    sorts = {path: slow_sort(one, known, path) for path in paths}
    may = [("claim", name, path) for path in paths if sorts[path] == "kind" for name in ("even", "odd")]
    may += 2 * [("head", path, name) for path in paths if sorts[path] == "kind" and path not in known
                for name, _ in one.book.heads]
    may += 3 * [("number", path, n) for path in paths if sorts[path] == "number" for n in (0, 1, 10)]
    may += 3 * [("word", path, each) for path in paths for each in dict(one.book.lists).get(sorts[path], ())]
    may += [("same", path, other) for path in paths for other in paths if path != other and sorts[path] == sorts[other]]
    if deep < 2 or chance.random() < 0.1 or not may:
        return chance.choice([NONE] + [leaf(row[0]) for row in one.rows])
    test = chance.choice(may)
    more = yes + ((test[1], test[2]),) if test[0] == "head" else yes
    return (test, some_tree(chance, one, deep - 1, more), some_tree(chance, one, deep - 1, yes))


def numbers_in(tree):
    """All integers for which a tree asks."""
    if len(tree) < 3:
        return []
    return ([tree[0][2]] if tree[0][0] == "number" else []) + numbers_in(tree[1]) + numbers_in(tree[2])


def put_in(thing, path, inner):
    """An open thing with another thing at a path within it."""
    if not path:
        return inner
    return thing[:1 + path[0]] + (put_in(thing[1 + path[0]], path[1:], inner),) + thing[2 + path[0]:]


def tests_of(tree):
    """All tests of a tree."""
    return [] if len(tree) < 3 else [tree[0]] + tests_of(tree[1]) + tests_of(tree[2])


def size_of(tree):
    """How many tests and leaves a tree has, and how deep it is."""
    if len(tree) < 3:
        return 1, 1
    (many, deep), (more, deeper) = size_of(tree[1]), size_of(tree[2])
    return 1 + many + more, 1 + max(deep, deeper)


def comb(many, test, yes, end):
    """A tree of so many tests, each no leading to the next one."""
    for n in range(many)[::-1]:
        end = (test(n), yes, end)
    return end


class IsTreeTest(unittest.TestCase):
    def told(self, one, thing):
        told = shallow(is_tree, one, thing)
        self.assertIs(type(told), bool)
        return told

    def test_trees(self):
        for one, trees in [
            (ONE, [NONE, leaf("a"), leaf("d"), RIGHT, (head("ptr", 0), NONE, NONE),
                   (asks("bad", 0), leaf("a"), NONE), (asks("bad", 0), (asks("bad", 0), NONE, NONE), NONE),
                   (head("ptr", 0), NONE, (head("ptr", 0), (asks("even", 0, 0), NONE, NONE), NONE)),
                   (head("ptr", 0), NONE, (head("int", 0), NONE, NONE)),
                   (head("pair", 0), (same((0, 0), (0, 1)), (same((0, 1), (0, 0)), NONE, NONE), NONE), NONE),
                   (head("ptr", 0), (same((0,), (0, 0)), NONE, NONE), NONE),
                   (head("opt", 0), (word("yes", 0, 0), (number(10 ** 19, 0, 1), NONE, NONE),
                                     (number(-3, 0, 1), NONE,
                                      (head("opt", 0, 2), (same((0, 1), (0, 2, 1)), NONE, NONE), NONE))), NONE)]),
            (MIXED, [(word("yes", 0), (number(3, 1), leaf("b"), leaf("a")), leaf("c")),
                     (word("no", 0), (word("no", 0), NONE, NONE), NONE), (head("tri", 2), NONE, NONE),
                     (number(0, 1), (number(0, 1), NONE, NONE), (number(-1, 1), NONE, NONE))]),
            (Table(DESK, KIND, ()), [NONE, (head("int", 0), NONE, NONE)]),
        ]:
            for tree in trees:
                self.assertTrue(self.told(one, tree), tree)

    def test_no_trees(self):
        for one, things in [
            (ONE, [("none", "a"), ("none", ()), ("row",), leaf("e"), leaf("none"), ("row", "a", "b"), ("row", 0),
                   ["none"], ["row", "a"], [head("ptr", 0), NONE, NONE], (head("ptr", 0), NONE),
                   (head("ptr", 0), NONE, NONE, NONE), (list(head("ptr", 0)), NONE, NONE), (NONE, NONE, NONE),
                   (head("ptr"), NONE, NONE), (("head", 0, "ptr"), NONE, NONE), (("head", [0], "ptr"), NONE, NONE),
                   (head("ptr", 1), NONE, NONE), (head("ptr", -1), NONE, NONE), (head("ptr", True), NONE, NONE),
                   (head("ptr", False), NONE, NONE), (head("flag", 0), NONE, NONE), (head("even", 0), NONE, NONE),
                   (head("~", 0), NONE, NONE), (head("?", 0), NONE, NONE), (("head", "ptr", (0,)), NONE, NONE),
                   (("tail", (0,), "ptr"), NONE, NONE), (asks("small", 0), NONE, NONE),
                   (("claim", (0,), "even"), NONE, NONE), (number(3, 0), NONE, NONE), (word("yes", 0), NONE, NONE),
                   (same((0,), (0,)), NONE, NONE), (same((0,), (0, 0)), NONE, NONE),
                   (head("ptr", 0, 0), NONE, NONE), (asks("even", 0, 0), NONE, NONE),
                   (head("ptr", 0), NONE, (asks("even", 0, 0), NONE, NONE)),
                   (head("int", 0), (asks("even", 0, 0), NONE, NONE), NONE),
                   (head("ptr", 0), (asks("even", 0, 1), NONE, NONE), NONE),
                   (head("ptr", 0), (asks("even", 0, 0, 0), NONE, NONE), NONE),
                   (head("ptr", 0), (asks("even", 0, -1), NONE, NONE), NONE),
                   (head("ptr", 0), (head("ptr", 0), NONE, NONE), NONE),
                   (head("ptr", 0), (head("int", 0), NONE, NONE), NONE),
                   (head("ptr", 0), (asks("even", 0), (head("int", 0), NONE, NONE), NONE), NONE),
                   (head("opt", 0), (same((0, 0), (0, 1)), NONE, NONE), NONE),
                   (head("opt", 0), (same((0, 1), (0, 2)), NONE, NONE), NONE),
                   (head("opt", 0), (asks("even", 0, 1), NONE, NONE), NONE),
                   (head("opt", 0), (head("int", 0, 0), NONE, NONE), NONE),
                   (head("opt", 0), (word("yes", 0, 1), NONE, NONE), NONE),
                   (head("opt", 0), (word("small", 0, 0), NONE, NONE), NONE),
                   (head("opt", 0), (number(3, 0, 0), NONE, NONE), NONE),
                   (head("opt", 0), (number(True, 0, 1), NONE, NONE), NONE),
                   (head("opt", 0), (number("3", 0, 1), NONE, NONE), NONE),
                   (head("opt", 0), (asks("even", 0, 1, 0), NONE, NONE), NONE)]),
            (MIXED, [(word("small", 0), NONE, NONE), (word("yes", 1), NONE, NONE), (word("yes", 2), NONE, NONE),
                     (number(1, 0), NONE, NONE), (number(1, 2), NONE, NONE), (same((0,), (1,)), NONE, NONE),
                     (same((1,), (1,)), NONE, NONE), (head("int", 1), NONE, NONE), (asks("even", 0), NONE, NONE)]),
            (Table(DESK, KIND, ()), [leaf("a"), ("row",)]),
        ]:
            for thing in things:
                self.assertFalse(self.told(one, thing), thing)

    def test_as_deep_as_trees_may_be(self):
        for many, told in [(118, True), (119, True), (120, False), (121, False), (150, False)]:
            self.assertEqual(self.told(ONE, comb(many, lambda n: asks("even", 0), NONE, NONE)), told)
            way = NONE
            for n in range(many)[::-1]:
                way = (("head", (0,) * (n + 1), "ptr"), way, NONE)
            self.assertEqual(self.told(ONE, way), told)
        # The deeper tree counts, on whichever side.
        self.assertFalse(self.told(ONE, (asks("odd", 0), NONE, comb(119, lambda n: asks("even", 0), NONE, NONE))))
        self.assertFalse(self.told(ONE, (asks("odd", 0), comb(119, lambda n: asks("even", 0), NONE, NONE), NONE)))
        self.assertTrue(self.told(ONE, (asks("odd", 0), comb(118, lambda n: asks("even", 0), NONE, NONE), NONE)))

    def test_heads_behind_one_that_said_yes_far_above(self):
        for test in (head("ptr", 0), head("int", 0), head("pair", 0, 0)):
            inner = comb(60, lambda n: asks("even", 0, 0), NONE, (test, NONE, NONE))
            self.assertFalse(self.told(ONE, (head("ptr", 0), (head("tri", 0, 0), inner, NONE), NONE)), test)
            self.assertEqual(self.told(ONE, (head("ptr", 0), (head("tri", 0, 0), NONE, inner), NONE)),
                             test == head("pair", 0, 0))
            self.assertEqual(self.told(ONE,
                                       (head("ptr", 0), NONE,
                                        comb(60, lambda n: asks("even", 0), NONE, (test, NONE, NONE)))),
                                        test != head("pair", 0, 0))

    def test_strange_things(self):
        for thing in STRANGE:
            self.assertFalse(self.told(ONE, thing))
            for what in ("head", "word", "number", "same", "claim"):
                self.assertEqual(self.told(ONE, ((what, thing, "ptr"), NONE, NONE)), what == "head" and thing == (0,))
                self.assertEqual(self.told(ONE, ((what, (0,), thing), NONE, NONE)), (what, thing) == ("head", "int"))
                self.assertFalse(self.told(ONE, ((what, (thing,), (0,)), NONE, NONE)))
                for test, right in [((what, (thing,), "ptr"), "head"), ((what, "even", (thing,)), "claim")]:
                    told = what == right and type(thing) is int and thing == 0
                    self.assertEqual(self.told(ONE, (test, NONE, NONE)), told, test)
            self.assertFalse(self.told(ONE, (thing, NONE, NONE)))
            self.assertFalse(self.told(ONE, (asks("even", 0), thing, NONE)))
            self.assertFalse(self.told(ONE, (asks("even", 0), NONE, thing)))
            self.assertFalse(self.told(ONE, ("row", thing)))
            self.assertFalse(self.told(ONE, (thing,)))

    def test_one_thing_otherwise_at_any_place(self):
        for one, tree in [(ONE, RIGHT),
                          (MIXED, (word("yes", 0), (head("opt", 2), (same((1,), (2, 1)), leaf("a"), NONE), leaf("b")),
                                   (number(1, 1), NONE, leaf("c"))))]:
            self.assertTrue(self.told(one, tree))
            many = [0, 0]
            for thing in other_things(tree, [None, True, 0, 1, 2, "no", "ptr", "pair", "a", "claim", "head", (0,), (2,),
                                             (), (0, 0), (2, 0), [], NONE, leaf("a"), RIGHT]):
                told = slow_tree(one, thing, {}, 120)
                many[told] += 1
                self.assertEqual(self.told(one, thing), told, thing)
            self.assertGreater(min(many), 15)

    def test_random(self):
        chance = random.Random(801)
        for _ in range(300):
            one = some_clear(chance, chance.choice(SORTS), 3)
            tree = some_tree(chance, one, chance.randrange(1, 7))
            self.assertTrue(self.told(one, tree), tree)


class LedTest(unittest.TestCase):
    def told(self, one, tree, use, facts, asked, end):
        self.assertEqual(led(one, tree, use, facts), end)
        told = tests(one, tree, use, facts)
        self.assertEqual(told, asked)
        told.append(None)
        self.assertEqual(tests(one, tree, use, facts), asked)

    def test_ordinary(self):
        first, second, third = head("ptr", 0), head("int", 0, 0), asks("even", 0, 0)
        self.told(ONE, NONE, (INT,), (), [], NONE)
        self.told(ONE, leaf("c"), (INT,), (), [], leaf("c"))
        self.told(ONE, RIGHT, (INT,), (), [first], leaf("a"))
        self.told(ONE, RIGHT, (new(0),), (), [first], leaf("a"))
        self.told(ONE, RIGHT, (ptr(INT),), (), [first, second], leaf("d"))
        self.told(ONE, RIGHT, (ptr(new(3)),), (), [first, second, third], leaf("b"))
        self.told(ONE, RIGHT, (ptr(new(3)),), (("odd", new(3)), ("even", new(3))), [first, second, third], leaf("c"))
        self.told(ONE, RIGHT, (ptr(new(3)),), (("odd", new(3)), ("even", new(4))), [first, second, third], leaf("b"))
        twice = (third, NONE, NONE)
        self.told(ONE, (first, (third, twice, twice), twice[1]), (ptr(INT),), (), [first, third, third], NONE)

    def test_each_kind_of_test(self):
        one = table(("flag", "number", "kind", "kind"))
        yes, no = (asks("odd", 3), NONE, NONE), NONE
        use = ("yes", -7, ("opt", "yes", -7, ptr(INT)), ptr(INT))
        for test, told in [
            (word("yes", 0), True), (word("no", 0), False), (number(-7, 1), True), (number(7, 1), False),
            (head("opt", 2), True), (head("int", 2), False), (same((2,), (3,)), False), (same((3,), (2,)), False),
            (asks("even", 3), True), (asks("even", 2), False), (asks("good", 3), False),
        ]:
            self.told(one, (test, yes, no), use, (("even", ptr(INT)),), [test] + [yes[0]] * told, NONE)
        for test, told in [
            (same((1,), (2, 1)), True), (same((2, 2), (3,)), True), (same((2, 0), (0,)), True),
            (same((2,), (2, 2)), False), (asks("even", 2, 2), True), (word("no", 2, 0), False),
            (number(-7, 2, 1), True),
        ]:
            self.told(one, (head("opt", 2), (test, yes, no), NONE), use, (("even", ptr(INT)),),
                      [head("opt", 2), test] + [yes[0]] * told, NONE)

    def test_errors_in_their_order(self):
        for call in (led, tests):
            for tree in STRANGE + [leaf("z"), (asks("even", 1), NONE, NONE)]:
                for use in ((INT,), None):
                    with self.assertRaises(NoTree):
                        shallow(call, ONE, tree, use, None)
            for use in STRANGE + [(A,), (3,), (INT, INT), [INT]]:
                for facts in ((), None):
                    if use != (INT,):
                        with self.assertRaises(NoUse):
                            shallow(call, ONE, RIGHT, use, facts)
            for facts in STRANGE[1:] + [(("small", INT),), (("even", A),), (("even", INT),) * 201]:
                if facts != ():
                    with self.assertRaises(NoFacts):
                        shallow(call, ONE, RIGHT, (INT,), facts)

    def test_tables_that_are_not_clear(self):
        tree = (head("int", 0), leaf("a"), leaf("b"))
        self.told(UNCLEAR, tree, (INT, INT), (), [head("int", 0)], leaf("a"))

    def test_deep(self):
        tree = NONE
        for n in range(119)[::-1]:
            tree = (("head", (0,) * (n + 1), "ptr"), tree, leaf("a"))
        self.assertEqual(shallow(led, ONE, tree, (chain(199, INT),), ()), NONE)
        self.assertEqual(shallow(led, ONE, tree, (chain(118, INT),), ()), leaf("a"))
        self.assertEqual(len(shallow(tests, ONE, tree, (chain(199, INT),), ())), 119)
        one = table(TWO)
        self.assertEqual(shallow(tests, one, (same((0,), (1,)), NONE, NONE), (chain(199, INT), chain(199, INT)), ()),
                         [same((0,), (1,))])
        self.assertEqual(shallow(led, one, (asks("even", 0), NONE, NONE), (chain(199, INT), INT),
                                 (("even", chain(199, INT)),)), NONE)

    def test_random(self):
        chance = random.Random(802)
        for _ in range(200):
            one = some_clear(chance, chance.choice(SORTS), 3)
            tree = some_tree(chance, one, 6)
            for _ in range(5):
                use = some_use(chance, one)
                facts = some_facts(chance, use)
                asked, end = slow_way(tree, use, facts)
                self.told(one, tree, use, facts, asked, end)


class TreeForTest(unittest.TestCase):
    def told(self, one):
        """A tree that is right at all cases of the table, and asks no test twice on a way."""
        tree = shallow(tree_for, one)
        self.assertTrue(slow_tree(one, tree, {}, 120))
        self.assertTrue(is_tree(one, tree))
        for use, facts in all_cases(one):
            asked, end = slow_way(tree, use, facts)
            self.assertEqual(end, slow_choice(one.rows, use, facts))
        self.ways(tree, [])
        self.assertEqual(tree_for(one), tree)
        return tree

    def ways(self, tree, asked):
        if len(tree) == 3:
            # Either way round it is the same test.
            told = ("same", *sorted(tree[0][1:])) if tree[0][0] == "same" else tree[0]
            self.assertNotIn(told, asked)
            self.ways(tree[1], asked + [told])
            self.ways(tree[2], asked + [told])

    def test_ordinary(self):
        for one in [
            ONE, MIXED, Table(DESK, KIND, ()), table(KIND, (A,)), table(KIND, (INT,)), table(TWO, (A, A), (A, B)),
            table(TWO, (INT, A), (A, INT), (INT, INT)), table(("flag",), ("yes",), ("no",), (A,)),
            table(("size", "size"), ("small", A), (A, "small"), ("small", "small"), (A, A)),
            table(("number", "number"), (A, A), (3, A), (3, 3)), table(KIND, (tri(A, A, A),), (tri(A, B, A),)),
            table(TWO, (pair(A, B), pair(B, A)), (A, B), (pair(A, A), pair(A, A))),
            table(TWO, [(A, B), EVEN], [(A, B), claim("even", 1)], [(A, B), both(EVEN, claim("even", 1))]),
            table(TWO, [(A, B), either(EVEN, claim("even", 1))], (A, B)),
            table(KIND, [(ptr(A),), EVEN], [(ptr(ptr(A)),), ODD], [(ptr(ptr(INT)),), None], (A,)),
            table(KIND, (("opt", "yes", 3, A),), (("opt", "no", A, B),), (("opt", "yes", A, B),), (A,)),
        ]:
            self.told(one)

    def test_claims_of_one_kind_by_unlike_rows(self):
        one = table(TWO, (A, B), [(A, A), EVEN], [(A, A), both(EVEN, ODD)])
        tree = self.told(one)
        self.assertEqual(led(one, tree, (INT, INT), (("even", INT), ("odd", INT))), leaf("c"))

    def test_errors_in_their_order(self):
        with self.assertRaises(NotClear):
            tree_for(UNCLEAR)
        with self.assertRaises(NotClear):
            tree_for(table(TWO, (INT, A), (A, INT), (ptr(A), B), (A, ptr(B)), (pair(A, B), C)))
        rows = [(INT,), (ptr(A),), (pair(A, B),), (tri(A, B, C),)]
        self.told(table(KIND, *rows))
        self.too_many(table(KIND, *rows, (A,)))

    def too_many(self, one):
        with self.assertRaises(TooMany) as told:
            tree_for(one)
        self.assertEqual(told.exception.most, 4)

    def test_as_many_parts_as_may_be(self):
        great = (tri(pair(A, B), pair(B, A), INT), tri(pair(INT, INT), A, B))
        other = (ptr(tri(A, A, A)), pair(ptr(A), ptr(pair(A, B))))
        for last, fits in [((INT, A), True), ((INT, chain(4, A)), True), ((pair(A, A), pair(A, B)), True),
                           ((INT, tri(ptr(A), ptr(B), C)), False), ((pair(A, A), pair(A, ptr(B))), False)]:
            one = table(TWO, great, other, last)
            if fits:
                self.told(one)
            else:
                self.too_many(one)

    def test_great_tables(self):
        """Trees are not much greater than they need be, even if rows differ by what comes last."""
        sorts = ("kind", "kind", "kind", "number")
        eight = both(both(both(EVEN, ODD), both(claim("good", 0), claim("bad", 0))),
                     both(both(claim("even", 1), claim("odd", 1)), both(claim("good", 1), claim("bad", 1))))
        rows = []
        for k in range(3):
            things = [("?", n) for n in range(3)]
            things[k] = tri(ptr(A), ptr(B), ("?", 9))
            rows.append([(*[each if n == k else ("?", 5 + n) for n, each in enumerate(things)], k), eight])
        tree = self.told(Table(DESK, sorts, tuple(("abc"[k], *each) for k, each in enumerate(rows))))
        self.assertLess(size_of(tree)[0], 200)

    def test_not_too_deep(self):
        chance = random.Random(804)
        for _ in range(20):
            demands = [either(both(claim(a, 0), claim(b, 1)), both(claim(c, 2), claim(a, 3)))
                       for a, b, c in [chance.sample(["even", "odd", "good", "bad"], 3)]]
            one = table(("kind",) * 4, [(A, B, C, ("?", 3)), demands[0]], (A, B, C, ("?", 3)))
            self.assertLess(size_of(self.told(one))[1], 20)

    def test_random(self):
        chance = random.Random(803)
        seen = {True: 0, False: 0}
        for _ in range(250):
            one = some_clear(chance, chance.choice(SORTS), 3)
            small = len(one.rows) <= 4 and sum(len(kinds_and_all(row[1])) for row in one.rows) <= 32
            seen[small] += 1
            if small:
                tree = self.told(one)
                if size_of(tree)[0] < 50:
                    self.assertIsNone(wrong_at(one, tree))
                for _ in range(5):
                    use = some_use(chance, one)
                    facts = some_facts(chance, use)
                    self.assertEqual(led(one, tree, use, facts), slow_choice(one.rows, use, facts))
            else:
                self.too_many(one)
        self.assertGreater(seen[True], 100)


def kinds_and_all(bundle):
    """All parts of a bundle, by calls within calls."""
    told = []
    for thing in bundle:
        told.append(thing)
        if isinstance(thing, tuple) and thing[0] not in ("?", "~"):
            told.extend(kinds_and_all(thing[1:]))
    return told


class WrongAtTest(unittest.TestCase):
    def right(self, one, tree):
        self.assertIsNone(shallow(wrong_at, one, tree))

    def wrong(self, one, tree):
        told = shallow(wrong_at, one, tree)
        self.assertIsInstance(told, tuple)
        self.assertEqual(wrong_at(one, tree), told)
        self.assertNotEqual(slow_way(tree, *told)[1], slow_choice(one.rows, *told))
        self.assertIs(is_wrong_at(one, tree, told), True)
        return told

    def test_ordinary(self):
        self.right(ONE, RIGHT)
        for tree in other_things(RIGHT, [NONE] + [leaf(label) for label in "abcd"]):
            if is_tree(ONE, tree) and tree != RIGHT:
                self.wrong(ONE, tree)
        self.wrong(ONE, leaf("a"))
        self.wrong(ONE, NONE)
        self.right(table(KIND, (A,)), leaf("a"))
        self.right(Table(DESK, KIND, ()), NONE)
        self.wrong(table(KIND, (ptr(A),)), leaf("a"))
        self.wrong(table(KIND, (ptr(A),)), NONE)

    def test_needless_tests(self):
        for test in [asks("bad", 0), head("tri", 0), head("int", 0)]:
            self.right(table(KIND, (A,)), (test, leaf("a"), leaf("a")))
            self.wrong(table(KIND, (A,)), (test, leaf("a"), NONE))
            self.wrong(table(KIND, (A,)), (test, NONE, leaf("a")))
            self.right(table(KIND, (A,)), (test, leaf("a"), (test, NONE, leaf("a"))))
        again = (asks("bad", 0), (asks("bad", 0), RIGHT, NONE), (asks("bad", 0), NONE, RIGHT))
        self.right(ONE, again)
        self.right(ONE, (head("int", 0), leaf("a"), RIGHT))
        self.wrong(ONE, (head("int", 0), leaf("b"), RIGHT))

    def test_turned_leaves(self):
        self.wrong(ONE, (head("ptr", 0), leaf("a"), RIGHT[1][2][2]))
        self.wrong(ONE, RIGHT[:2] + (leaf("b"),))
        self.wrong(ONE, (RIGHT[0], (RIGHT[1][0], leaf("d"), (asks("even", 0, 0), leaf("b"), leaf("c"))), leaf("a")))
        self.wrong(ONE, (RIGHT[0], (RIGHT[1][0], leaf("d"), (asks("odd", 0, 0), leaf("c"), leaf("b"))), leaf("a")))

    def test_numbers(self):
        one = table(("number",), (A,), (3,))
        self.right(one, (number(3, 0), leaf("b"), leaf("a")))
        self.right(one, (number(0, 0), leaf("a"), (number(3, 0), leaf("b"), leaf("a"))))
        self.right(one, comb(20, lambda n: number(n + 4, 0), leaf("a"), (number(3, 0), leaf("b"), leaf("a"))))
        self.wrong(one, comb(20, lambda n: number(n + 4, 0), leaf("a"), leaf("a")))
        self.wrong(one, (number(4, 0), leaf("b"), (number(3, 0), leaf("b"), leaf("a"))))
        self.wrong(one, (number(3, 0), leaf("b"), comb(5, lambda n: number(n, 0), leaf("a"), leaf("b"))))
        # A test that never says yes any more does no harm, whatever leaf stands there.
        self.right(one, (number(3, 0), leaf("b"), (number(3, 0), NONE, leaf("a"))))
        self.right(one, (number(3, 0), (number(4, 0), NONE, leaf("b")), leaf("a")))
        self.right(table(("number", "number"), (A, A)), (same((0,), (1,)), leaf("a"), NONE))
        self.wrong(table(("number", "number"), (A, A)), (number(7, 0), NONE, (same((0,), (1,)), leaf("a"), NONE)))
        self.right(table(("number", "number"), (A, A)),
                   (number(7, 0), (number(7, 1), leaf("a"), NONE), (same((0,), (1,)), leaf("a"), NONE)))

    def test_words(self):
        one = table(("flag", "size"), (A, B), ("yes", "small"))
        self.right(one, (word("no", 0), leaf("a"), (word("small", 1), leaf("b"), leaf("a"))))
        self.right(one, (word("no", 0), leaf("a"),
                         (word("large", 1), leaf("a"), (word("middle", 1), leaf("a"), leaf("b")))))
        self.wrong(one, (word("no", 0), leaf("a"), (word("large", 1), leaf("a"), leaf("b"))))
        self.right(one, (word("no", 0), leaf("a"), (word("yes", 0), (word("small", 1), leaf("b"), leaf("a")), NONE)))
        self.wrong(one, (word("yes", 0), leaf("b"), leaf("a")))
        self.right(table(("flag", "flag"), (A, A)), (same((0,), (1,)), leaf("a"), NONE))

    def test_same(self):
        one = table(TWO, (A, B), (A, A))
        self.right(one, (same((0,), (1,)), leaf("b"), leaf("a")))
        self.right(one, (same((1,), (0,)), leaf("b"), leaf("a")))
        self.wrong(one, (same((0,), (1,)), leaf("a"), leaf("b")))
        self.right(one, (head("int", 0), (head("int", 1), leaf("b"), leaf("a")),
                         (same((0,), (1,)), leaf("b"), leaf("a"))))
        self.wrong(one, (head("ptr", 0), (head("ptr", 1), leaf("b"), leaf("a")),
                         (same((0,), (1,)), leaf("b"), leaf("a"))))
        # What stands within itself is never the same, and what is of unlike heads neither.
        self.right(table(KIND, (A,)), (head("ptr", 0), (same((0,), (0, 0)), NONE, leaf("a")), leaf("a")))
        self.right(one, (head("ptr", 0), (head("int", 1), (same((0,), (1,)), NONE, leaf("a")), (same((0,), (1,)),
                   leaf("b"), leaf("a"))), (same((0,), (1,)), leaf("b"), leaf("a"))))
        self.right(table(KIND, (A,)), (head("tri", 0), (same((0, 0), (0, 1)), (same((0, 1), (0, 2)), (
            same((0, 0), (0, 2)), leaf("a"), NONE), leaf("a")), leaf("a")), leaf("a")))

    def test_claims_that_no_row_asks(self):
        one = table(KIND, (A,), (ptr(A),))
        right = (head("ptr", 0), leaf("b"), leaf("a"))
        self.right(one, (asks("bad", 0), right, right))
        self.wrong(one, (asks("bad", 0), right, leaf("a")))
        self.wrong(one, (asks("bad", 0), (asks("good", 0), leaf("a"), right), right))
        # The claim is of one kind that is come to by two paths.
        inner = (asks("bad", 0), (asks("bad", 1), leaf("a"), NONE), leaf("a"))
        self.right(table(TWO, (A, B)), (same((0,), (1,)), inner, leaf("a")))
        self.wrong(table(TWO, (A, B)), (same((0,), (1,)), leaf("a"), inner))

    def test_a_wrong_leaf_far_down(self):
        for at in (0, 60, 118):
            for inner, told in [(leaf("a"), None), (NONE, "wrong")]:
                tree = comb(119 - at - 1, lambda n: number(n + at + 1, 1), leaf("a"), leaf("a"))
                tree = comb(at, lambda n: number(n, 1), leaf("a"), (number(at, 1), inner, tree))
                one = table(("kind", "number"), (A, B))
                if told is None:
                    self.right(one, tree)
                else:
                    self.assertEqual(self.wrong(one, tree)[0][1], at)
        one = table(KIND, (A,), (chain(4, A),))
        tree = leaf("b")
        for n in range(119)[::-1]:
            end = leaf("a") if n < 4 else leaf("b")
            tree = (("head", (0,) * (n + 1), "ptr"), tree, end)
        self.right(one, tree)
        tree = NONE
        for n in range(119)[::-1]:
            end = leaf("a") if n < 4 else leaf("b")
            tree = (("head", (0,) * (n + 1), "ptr"), tree, end)
        self.assertEqual(self.wrong(one, tree)[0], (chain(119, new(0)),))

    def test_errors_in_their_order(self):
        for tree in STRANGE + [leaf("z"), NONE, (head("int", 0), leaf("a"), leaf("b"))]:
            for call in (wrong_at, lambda one, each: is_wrong_at(one, each, None)):
                with self.assertRaises(NotClear):
                    shallow(call, UNCLEAR, tree)
        for tree in STRANGE + [leaf("z"), (head("int", 1), NONE, NONE)]:
            for call in (wrong_at, lambda one, each: is_wrong_at(one, each, None)):
                with self.assertRaises(NoTree):
                    shallow(call, ONE, tree)

    def too_many(self, one, tree):
        self.assertTrue(is_tree(one, tree))
        with self.assertRaises(TooMany) as told:
            shallow(wrong_at, one, tree)
        self.assertEqual(told.exception.most, 2000)
        self.assertIs(is_wrong_at(one, tree, None), False)

    def great_tree(self, many, end):
        """A tree of 62 + 32 * 60 + many cases, two of them of each claim on the way: with 18 these are 2000."""
        tree = comb(59, lambda n: number(n + 100, 0), leaf("a"), end)
        for name, path in [("even", (1,)), ("odd", (1,)), ("good", (1,)), ("bad", (1,)), ("even", (2,))]:
            tree = (("claim", name, path), leaf("a"), tree)
        return comb(many, lambda n: number(n, 0), leaf("a"), tree)

    def test_as_many_cases_as_may_be(self):
        one = table(("number", "kind", "kind"), (A, B, C))
        self.right(one, self.great_tree(18, leaf("a")))
        self.wrong(one, self.great_tree(18, NONE))
        self.too_many(one, self.great_tree(19, leaf("a")))
        self.too_many(one, self.great_tree(19, NONE))
        # What is wrong ahead of it is not told either.
        self.too_many(one, (number(1000, 0), NONE, self.great_tree(18, leaf("a"))))
        great = Table(DESK, SORTS_OF_CASES, cases_2000())
        self.wrong(great, leaf("a"))
        self.too_many(great, (head("int", 1), leaf("a"), leaf("a")))
        self.too_many(great, (word("yes", 0), leaf("a"), leaf("a")))

    def test_what_does_not_count(self):
        """Tests that clash leave no cases; a claim that is asked twice counts once."""
        one = table(("number", "kind", "kind"), (A, B, C))
        full = self.great_tree(17, leaf("a"))
        self.right(one, (number(0, 0), (number(1, 0), full, leaf("a")), full))
        self.too_many(one, (number(0, 0), (number(0, 0), full, leaf("a")), full))
        again = (asks("even", 1), (asks("even", 1), leaf("a"), leaf("a")), leaf("a"))
        self.right(one, comb(10, lambda n: number(n + 300, 0), leaf("a"), again))

    def test_as_many_parts_as_may_be(self):
        one = table(KIND, (A,))

        def tree(tris, ptrs):
            path, heads = (0,), []
            for name in ["tri"] * tris + ["ptr"] * ptrs:
                heads.append(("head", path, name))
                path += (0,)
            told = leaf("a")
            for test in heads[::-1]:
                told = (test, told, leaf("a"))
            return told

        self.right(one, tree(66, 1))
        self.too_many(one, tree(66, 2))
        self.too_many(one, tree(67, 0))
        self.right(one, tree(0, 119))
        # With the row it is too great, by itself it is not.
        for rows, fits in [(PARTS_200, True), (PARTS_201, False)]:
            one = Table(DESK, ("kind",) * 4, (("a", (A, B, C, ("?", 3)), None), ("b", rows[1], None)))
            told = (head("int", 0), leaf("a"), (head("ptr", 0), leaf("a"), leaf("b")))
            way = self.way_to(rows[0], told)
            if fits:
                self.wrong(one, way)
            else:
                self.too_many(one, way)

    def way_to(self, bundle, end):
        """A tree whose way by yes leads to what stands in a bundle."""
        tests_here, places = [], {}

        def ask(path, thing):
            if thing[0] == "?":
                if thing[1] in places:
                    tests_here.append(("same", places[thing[1]], path))
                places.setdefault(thing[1], path)
                return
            tests_here.append(("head", path, thing[0]))
            for k, inner in enumerate(thing[1:]):
                ask(path + (k,), inner)

        for k, thing in enumerate(bundle):
            ask((k,), thing)
        for test in tests_here[::-1]:
            end = (test, end, leaf("a"))
        return end

    def test_doubled_again_and_again(self):
        """What would have very many parts is told as too many, or found to clash, at once."""
        one = table(KIND, (A,))
        for clash in (False, True):
            tree = NONE if clash else leaf("a")
            for n in range(50)[::-1]:
                path = (0,) * (n + 1)
                test = same(path + (0,), path + (1,)) if n < 49 or not clash else same(path, path + (0,))
                tree = (head("pair", *path), (test, tree, leaf("a")), leaf("a"))
            if clash:
                self.assertLess(size_of(tree)[1], 120)
            self.too_many(one, tree)

    def test_judged(self):
        tree = (head("ptr", 0), leaf("b"), leaf("a"))
        use, facts = (ptr(new(7)),), (("even", new(7)),)
        for thing, told in [
            ((use, facts), True), ((use, ()), False), (((INT,), ()), False), (((ptr(INT),), ()), True),
            ((use, facts * 200), True), ((use, facts * 201), False), ([use, facts], False), ((use,), False),
            ((use, facts, ()), False), ((list(use), facts), False), ((use, list(facts)), False),
            (((ptr(A),), facts), False), ((use, facts + (("small", INT),)), False), (use, False), (facts, False),
        ]:
            self.assertIs(shallow(is_wrong_at, ONE, tree, thing), told, thing)
        for thing in STRANGE:
            self.assertIs(shallow(is_wrong_at, ONE, tree, thing), False)
            self.assertIs(shallow(is_wrong_at, ONE, tree, (use, thing)), False)
            self.assertIs(shallow(is_wrong_at, ONE, tree, (thing, facts)), False)
        for thing in other_things((use, facts), [None, True, 0, "odd", "even", INT, A, new(0), [], (), use]):
            told = is_pair(ONE, thing) and slow_way(tree, *thing)[1] != slow_choice(ONE.rows, *thing)
            self.assertIs(is_wrong_at(ONE, tree, thing), told, thing)
        self.assertIs(shallow(is_wrong_at, ONE, tree, ((chain(199, INT),), (("even", chain(198, INT)),))), True)

    def test_the_fact_of_trees(self):
        """A tree that is told to be right is so for all uses that are tried, those too that its tests ask for."""
        chance = random.Random(805)
        seen = {"right": 0, "wrong": 0}
        for k in range(500):
            one = some_clear(chance, chance.choice(SORTS), 3)
            tree = some_tree(chance, one, chance.randrange(1, 6))
            if k % 2:
                tree = self.mended(chance, one, tree)
            told = wrong_at(one, tree)
            seen["right" if told is None else "wrong"] += 1
            if told is not None:
                self.wrong(one, tree)
            else:
                for use, facts in self.tried(chance, one, tree):
                    self.assertEqual(slow_way(tree, use, facts)[1], slow_choice(one.rows, use, facts))
        self.assertGreater(min(seen.values()), 60)

    def mended(self, chance, one, tree):
        """A tree that is right, by another one with needless tests, in which perhaps a leaf is turned."""
        try:
            right = tree_for(one)
        except TooMany:
            return tree

        def below(part, yes):
            if len(part) == 3 and chance.random() < 0.8:
                more = yes + ((part[0][1], part[0][2]),) if part[0][0] == "head" else yes
                return (part[0], below(part[1], more), below(part[2], yes))
            return grafted(right, dict(yes))

        def grafted(part, yes):
            if len(part) < 3:
                return chance.choice([NONE] + [leaf(row[0]) for row in one.rows]) if chance.random() < 0.03 else part
            if part[0][0] == "head" and part[0][1] in yes:
                return grafted(part[1 if yes[part[0][1]] == part[0][2] else 2], yes)
            more = {**yes, part[0][1]: part[0][2]} if part[0][0] == "head" else yes
            return (part[0], grafted(part[1], more), grafted(part[2], yes))

        told = below(tree, ())
        return told if size_of(told)[0] < 200 else tree

    def tried(self, chance, one, tree):
        """Uses by chance, and facts: among them some that all tests ask for, as far as they go together."""
        told = []
        for _ in range(20):
            use = some_use(chance, one)
            told.append((use, some_facts(chance, use)))
            # Go down a way by chance, and let the use have what is asked.
            part = tree
            while len(part) == 3:
                what, path, other = part[0]
                yes = chance.random() < 0.6
                if what == "claim":
                    break
                try:
                    if yes and what == "head" and stands(use, path)[0] != other:
                        sorts = dict(one.book.heads)[other]
                        inner = {"kind": chance.choice([INT, new(0), ptr(INT)]), "number": chance.choice([0, 1, 10]),
                                 "flag": "yes", "size": "small"}
                        thing = (other,) + tuple(inner[sort] for sort in sorts)
                        use = put_in(("use", *use), path, thing)[1:]
                    elif yes and what == "same":
                        use = put_in(("use", *use), other, stands(use, path))[1:]
                    elif yes and what in ("word", "number"):
                        use = put_in(("use", *use), path, other)[1:]
                    part = part[1] if slow_way((part[0], leaf("a"), NONE), use, ())[1] == leaf("a") else part[2]
                except (IndexError, TypeError):
                    break
            kinds = [kind for thing in use for kind in kinds_within(thing)]
            facts = tuple((name, kind) for name in ("even", "odd") for kind in kinds if chance.random() < 0.5)
            if is_pair(one, (use, facts)):
                told.append((use, facts))
        return told

    def test_counted_as_the_fact_of_trees_counts(self):
        chance = random.Random(806)
        for _ in range(60):
            one = some_clear(chance, chance.choice([("kind", "flag"), ("flag", "kind", "number"), ("size", "flag")]), 4)
            tree = some_tree(chance, one, chance.randrange(5, 9))
            many = self.slow_count(one, tree)
            if many > 2000:
                self.too_many(one, tree)
            else:
                self.assertEqual(len(leaf_cases(one, tree)), many)

    def slow_count(self, one, tree, way=()):
        """How many cases the leaves have together."""
        if len(tree) == 3:
            return (self.slow_count(one, tree[1], way + ((tree[0], True),))
                    + self.slow_count(one, tree[2], way + ((tree[0], False),)))
        yes = {}
        bundles = [top(one.sorts)]
        asking = []
        for test, said in way:
            asking.append(self.asker(one, yes, test))
            if said and test[0] == "head":
                yes[test[1]] = test[2]
            if said and test[0] == "same" and are_within(test[1], test[2]):
                bundles = []
            if said and bundles:
                bundles = slow_meets_two(bundles[0], asking[-1][0])
        if not bundles:
            return 0
        rows = [row[1:] for row in one.rows]
        return len(slow_cases(one.book, one.sorts, slow_meets(bundles[0], one.rows), rows + asking))

    def asker(self, one, yes, test):
        """A pair of patterns and a demand that meet the uses to which a test says yes."""
        names = iter(range(900, 999))
        bundle = list(("?", next(names)) for _ in one.sorts)
        demand = None
        if test[0] == "claim":
            paths, end, demand = [test[2]], ("?", 899), ("claim", test[1], 899)
        elif test[0] == "same":
            paths, end = test[1:], ("?", 899)
        else:
            paths = [test[1]]
            heads = dict(one.book.heads)
            end = test[2] if test[0] != "head" else (test[2],) + tuple(("?", next(names)) for _ in heads[test[2]])
        thing = ("use", *bundle)
        for path in sorted(paths):
            for k in range(1, len(path)):
                if stands(thing[1:], path[:k])[0] == "?":
                    many = len(dict(one.book.heads)[yes[path[:k]]])
                    thing = put_in(thing, path[:k], (yes[path[:k]],) + tuple(("?", next(names)) for _ in range(many)))
            thing = put_in(thing, path, end)
        return (thing[1:], demand)


def slow_meets_two(one, other):
    """The meet of two bundles in a list, or none."""
    told = slow_meet(one, other)
    return [] if told is None else [told]


def are_within(path, other):
    """Whether one of two paths goes within what stands at the other one."""
    return path[:len(other)] == other or other[:len(path)] == path


if __name__ == "__main__":
    unittest.main()
