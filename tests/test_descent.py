"""[11.1] to [11.3]: weights that fall, sums that keep them, and loops."""

import random
import unittest

from nearestkinds.descent import descent, is_loop, is_sum, is_weights
from nearestkinds.early import early
from nearestkinds.errors import KindError, NotClear
from nearestkinds.programs import uses
from nearestkinds.tables import Table
from tests.great import SORTS_OF_CASES, cases_2000
from tests.samples import STRANGE, chain, is_instance, shallow, wide
from tests.slow import (A, B, C, DESK, INT, KIND, claim, match, new, other_things, pair, ptr, some_use, sorts_within,
                        table, tri)
from tests.slow_programs import (SlowReckoner, Stop, call, family, less, minus, parts_of, plus, program, put_for,
                                 some_program, some_term)

NUMBER = ("number",)
TWO = ("kind", "kind")
D = ("?", 3)

DOWN = family("down", KIND, "kind", ((ptr(A),), call("down", A)), ((pair(A, B),), call("down", B)))
SAME = family("same", KIND, "kind", ((ptr(A),), call("same", ptr(A))))
# A later place grows, an earlier one falls by more.
TRADE = family("trade", TWO, "kind", ((ptr(A), B), call("trade", A, pair(B, B))))
HEAVY = family("heavy", TWO, "kind", ((tri(A, B, C), D), call("heavy", A, ptr(ptr(D)))),
               ((ptr(A), ptr(B)), call("heavy", A, B)))


def slow_calls(told):
    """All calls of a program, with the name of the row's family and the patterns."""
    def within(term):
        here = [term] if isinstance(term, tuple) and term[0] == "!" else []
        return here + [each for part in parts_of(term) for each in within(part)]

    return [(name, row[1], each) for name, one, _, bodies in told.families for row, body in zip(one.rows, bodies)
            for each in within(body)]


def own_sizes(told, call_here):
    """The numbers of what has a size of its own within a call's terms, by the places of these: calls and LESS."""
    found, many = {}, [0]

    def look(place, sort, term):
        if not isinstance(term, tuple) or term[0] in ("?", "~") or sort != "kind":
            return
        if term[0] in ("!", "<"):
            many[0] += 1
            found[place] = -many[0]
            return
        for k, (inner, part) in enumerate(zip(dict(told.book.heads)[term[0]], term[1:])):
            look(place + (k,), inner, part)

    sorts = [each[1] for each in told.families if each[0] == call_here[1]][0].sorts
    for k, (sort, term) in enumerate(zip(sorts, call_here[2])):
        look((k,), sort, term)
    return found


def size(told, sort, term, sizes, head, own, place):
    """The size of a term: sizes has those of unknowns and of what own tells, head is counted for a head."""
    if sort != "kind":
        return 0
    if place in own:
        return sizes[own[place]]
    if term[0] == "?":
        return sizes[term[1]]
    sorts = dict(told.book.heads)[term[0]]
    return head + sum(size(told, inner, part, sizes, head, own, place + (k,))
                      for k, (inner, part) in enumerate(zip(sorts, term[1:])))


def slow_unknowns(told, name, patterns, call_here):
    """The unknowns of a call."""
    sorts = [each[1] for each in told.families if each[0] == name][0].sorts
    found = sorts_within(DESK, sorts, patterns)
    return [n for n in found if found[n] == "kind"] + list(own_sizes(told, call_here).values())


def slow_weights(told, thing):
    """Whether a thing is weights: for sizes of 1, and with one of them greater."""
    names = [name for name, _, _, _ in told.families]
    if type(thing) is not dict or set(thing) != set(names):
        return False
    for name, one, _, _ in told.families:
        if type(thing[name]) is not tuple or len(thing[name]) != 1 + len(one.sorts):
            return False
        if any(type(each) is not int or each < 0 for each in thing[name]):
            return False
        if any(each for each, sort in zip(thing[name][1:], one.sorts) if sort != "kind"):
            return False
    sorts = {name: one.sorts for name, one, _, _ in told.families}
    for name, patterns, call_here in slow_calls(told):
        own = own_sizes(told, call_here)
        unknowns = slow_unknowns(told, name, patterns, call_here)

        def margin(sizes):
            here = thing[name][0] + sum(weight * size(told, sort, part, sizes, 1, {}, ())
                                        for weight, sort, part in zip(thing[name][1:], sorts[name], patterns))
            other = call_here[1]
            return here - thing[other][0] - sum(
                weight * size(told, sort, part, sizes, 1, own, (k,))
                for k, (weight, sort, part) in enumerate(zip(thing[other][1:], sorts[other], call_here[2])))

        ones = {n: 1 for n in unknowns}
        if margin(ones) <= 0 or any(margin({**ones, n: 10 ** 9}) < margin(ones) for n in unknowns):
            return False
    return True


def slow_sum(told, thing):
    """Whether a thing is a sum, as the words say."""
    calls = slow_calls(told)
    if type(thing) is not tuple or len(thing) != len(calls):
        return False
    for each, (name, patterns, call_here) in zip(thing, calls):
        if type(each) is not tuple or len(each) != 2 or type(each[0]) is not int or each[0] < 0:
            return False
        if type(each[1]) is not dict or set(each[1]) != set(slow_unknowns(told, name, patterns, call_here)):
            return False
        if any(type(number) is not int or number < each[0] for number in each[1].values()):
            return False
    if not any(p for p, _ in thing):
        return False
    for name, one, _, _ in told.families:
        if sum(each[0] for each, of in zip(thing, calls) if of[0] == name) != (
                sum(each[0] for each, of in zip(thing, calls) if of[2][1] == name)):
            return False
        for k, sort in enumerate(one.sorts):
            mine = sum(size(told, sort, of[1][k], sizes, p, {}, ()) for (p, sizes),
                       of in zip(thing, calls) if of[0] == name)
            theirs = sum(size(told, sort, of[2][2][k], sizes, p, own_sizes(told, of[2]), (k,))
                         for (p, sizes), of in zip(thing, calls) if of[2][1] == name)
            if mine > theirs:
                return False
    return True


def slow_loop(told, thing):
    """Whether a thing is a loop, by calls within calls."""
    families = {each[0]: each for each in told.families}
    if type(thing) is not tuple or len(thing) != 3 or type(thing[0]) is not str or thing[0] not in families:
        return False
    name, bundle, steps = thing
    if type(steps) is not tuple or not steps:
        return False

    def calls(term):
        if not isinstance(term, tuple):
            return []
        inner = term[1:3] if term[0] == "<" else parts_of(term)
        return ([term] if term[0] == "!" else []) + [each for part in inner for each in calls(part)]

    def signs(term):
        return isinstance(term, tuple) and (term[0] in ("!", "+", "-", "*", "<") or any(map(signs, parts_of(term))))

    terms = bundle
    for step in steps:
        _, one, _, bodies = families[name]
        try:
            choice = early(one, (terms, None))
        except KindError:
            return False
        if choice is None or choice[0] != "row":
            return False
        row = [row[0] for row in one.rows].index(choice[1])
        found = calls(put_for(bodies[row], match(one.rows[row][1], terms)))
        if type(step) is not int or not 0 <= step < len(found):
            return False
        _, name, terms = found[step]
        if any(map(signs, terms)):
            return False
    return name == thing[0] and is_instance(terms, bundle)


class WeightsTest(unittest.TestCase):
    def judged(self, flag, one, thing):
        self.assertIs(shallow(is_weights, one, thing), flag, thing)
        self.assertEqual(slow_weights(one, thing), flag, thing)

    def test_ordinary(self):
        one = program(DOWN)
        for weights, flag in [((0, 1), True), ((5, 1), True), ((0, 7), True), ((0, 0), False), ((9, 0), False),
                              ((0, 10 ** 19), True)]:
            self.judged(flag, one, {"down": weights})
        one = program(SAME)
        for weights in [(0, 0), (0, 1), (5, 0), (1, 10)]:
            self.judged(False, one, {"same": weights})
        one = program(TRADE)
        for weights, flag in [((0, 1, 0), True), ((0, 0, 1), False), ((0, 1, 1), False), ((0, 9, 1), False),
                              ((3, 2, 0), True)]:
            self.judged(flag, one, {"trade": weights})
        one = program(HEAVY)
        # At the sizes of 1 three times the first is to be more than twice the second.
        for weights, flag in [((0, 1, 0), True), ((0, 2, 1), True), ((0, 1, 1), True), ((0, 2, 3), False),
                              ((0, 3, 4), True),
                              ((0, 3, 5), False), ((0, 1, 2), False), ((0, 0, 1), False), ((7, 2, 3), False)]:
            self.judged(flag, one, {"heavy": weights})
        self.judged(True, program(), {})
        self.judged(True, program(family("f", ("flag", "kind", "number"), "kind")), {"f": (0, 0, 0, 0)})
        self.judged(True, program(family("f", ("flag", "kind", "number"), "kind")), {"f": (4, 0, 7, 0)})

    def test_between_families(self):
        one = program(family("f", KIND, "kind", ((A,), call("g", A, A))),
                      family("g", TWO, "kind", ((ptr(A), B), call("f", A))))
        for f, g, flag in [((1, 2), (0, 2, 0), True), ((1, 1), (0, 1, 0), False), ((1, 2), (0, 1, 1), False),
                           ((0, 2), (0, 2, 0), False), ((2, 3), (0, 3, 0), True), ((2, 3), (1, 3, 0), True),
                           ((3, 3), (0, 3, 0), False), ((2, 2), (0, 2, 0), False), ((1, 3), (0, 3, 1), False),
                           ((1, 2), (0, 3, 0), False), ((1, 3), (0, 2, 0), False), ((1, 0), (0, 0, 0), False)]:
            self.judged(flag, one, {"f": f, "g": g})

    def test_whatever_the_sizes(self):
        """An unknown that counts less in the patterns is no weight, though it be so at the size of 1."""
        one = program(family("f", TWO, "kind", ((pair(A, pair(A, A)), B), call("f", ptr(B), A))))
        self.judged(False, one, {"f": (0, 5, 1)})
        self.judged(True, one, {"f": (0, 1, 1)})
        self.judged(True, one, {"f": (0, 2, 2)})
        self.judged(False, one, {"f": (0, 1, 4)})
        self.judged(False, one, {"f": (0, 2, 1)})
        # Unknowns of other sorts, numbers and words have no size; heads with such things count 1.
        one = program(family("f", ("number", "kind"), "kind", ((A, ("opt", B, A, C)), call("f", plus(A, 5), C))))
        self.judged(True, one, {"f": (0, 0, 1)})
        self.judged(False, one, {"f": (0, 1, 1)})
        one = program(family("f", ("number", "kind"), "kind", ((A, B), call("f", 3, ("mode", "small", B)))))
        self.judged(False, one, {"f": (0, 0, 1)})

    def test_calls_within_calls(self):
        """A call, a LESS has a size of its own: by it no weight may rise; and it is a call of the program itself."""
        one = program(family("f", TWO, "kind", ((ptr(A), ptr(B)), call("f", A, call("f", A, B)))))
        self.judged(True, one, {"f": (0, 1, 0)})
        self.judged(False, one, {"f": (0, 1, 1)})
        self.judged(False, one, {"f": (0, 0, 1)})
        one = program(family("f", KIND, "kind", ((ptr(A),), call("f", less(1, 2, A, A)))))
        self.judged(False, one, {"f": (0, 1)})
        one = program(family("f", TWO, "kind", ((ptr(A), B), call("f", A, less(1, 2, call("f", ptr(A), B), B)))))
        self.judged(False, one, {"f": (0, 1, 0)})
        one = program(family("f", TWO, "kind", ((ptr(A), B), call("f", A, less(1, 2, call("f", A, B), B)))))
        self.judged(True, one, {"f": (0, 1, 0)})
        # Calls in the last two terms of a LESS count, too.
        one = program(family("f", KIND, "kind", ((A,), less(1, 2, A, call("f", A)))))
        self.judged(False, one, {"f": (1, 1)})
        # One in a place of numbers has no size, but is a call, as those in its terms are.
        one = program(family("f", ("number", "kind"), "number", ((A, ptr(B)), call("f", call("f", A, B), B))))
        self.judged(True, one, {"f": (0, 0, 1)})
        one = program(family("f", ("number", "kind"), "number", ((A, ptr(B)), call("f", call("f", A, ptr(B)), B))))
        self.judged(False, one, {"f": (0, 0, 1)})

    def test_other_things(self):
        one = program(TRADE, DOWN)
        right = {"trade": (0, 1, 0), "down": (0, 1)}
        self.judged(True, one, right)
        self.judged(True, one, {name: right[name] for name in ("down", "trade")})
        for thing in [{"trade": (0, 1, 0)}, {**right, "more": (0, 1)}, {**right, 0: (0, 1)}, {**right, "down": [0, 1]},
                      {**right, "down": (0,)},
                      {**right, "down": (0, 1, 0)}, {**right, "down": (0, True)}, {**right, "down": (False, 1)},
                      {**right, "down": (-1, 1)},
                      {**right, "down": (0, "1")}, {**right, "down": (0, None)}, {**right, "trade": (0, 1)},
                      {**right, "trade": None},
                      tuple(right.items()), list(right), ("weights", right), {"trade": (0, 1, 0), "same": (0, 1)}]:
            self.judged(False, one, thing)
        one = program(family("f", ("flag", "number", "kind"), "kind", ((A, B, ptr(C)), call("f", A, B, C))))
        for weights, flag in [((0, 0, 0, 1), True), ((0, 1, 0, 1), False), ((0, 0, 1, 1), False), ((0, 0, 0, 0), False),
                              ((0, 0, False, 1), False)]:
            self.judged(flag, one, {"f": weights})
        for thing in STRANGE:
            self.assertIs(shallow(is_weights, one, thing), False)
            self.assertIs(shallow(is_weights, one, {"f": thing}), False)
            self.assertIs(shallow(is_weights, one, {"f": (0, 0, 0, thing)}), type(thing) is int and thing > 0)


class SumTest(unittest.TestCase):
    def judged(self, flag, one, thing):
        self.assertIs(shallow(is_sum, one, thing), flag, thing)
        self.assertEqual(slow_sum(one, thing), flag, thing)

    def test_ordinary(self):
        one = program(SAME)
        for thing, flag in [
            (((1, {0: 1}),), True), (((7, {0: 7}),), True), (((1, {0: 2}),), True), (((7, {0: 100}),), True),
            (((0, {0: 0}),), False),
            (((0, {0: 1}),), False), (((1, {0: 0}),), False), (((2, {0: 1}),), False), (((1, {}),), False),
            (((1, {1: 1}),), False),
            (((1, {0: 1, 1: 1}),), False), (((1, {"0": 1}),), False), (((1, {0: True}),), False),
            (((True, {0: 1}),), False),
            (((-1, {0: 1}),), False), (((1, {0: None}),), False), (((1, ((0, 1),)),), False), (([1, {0: 1}],), False),
            ([(1, {0: 1})], False), ((1, {0: 1}), False), ((), False), (((1, {0: 1}),) * 2, False),
            (((1, {0: 1}, 0),), False),
            (((1,),), False), (((1, {0: -1}),), False), (((1, {-1: 1}),), False),
        ]:
            self.judged(flag, one, thing)
        self.judged(False, program(DOWN), ((1, {0: 1}), (1, {0: 1, 1: 1})))
        self.judged(False, program(), ())
        self.judged(False, program(family("f", KIND, "kind", ((A,), A))), ())

    def test_by_several_calls(self):
        """Two of one call and one of the other one keep all weights."""
        one = program(family("f", TWO, "kind", ((ptr(ptr(A)), B), call("f", A, ptr(B))),
                             ((A, ptr(B)), call("f", ptr(A), B))))
        for thing, flag in [
            (((1, {0: 1, 1: 1}), (2, {0: 2, 1: 2})), False), (((1, {0: 1, 1: 1}), (1, {0: 1, 1: 1})), False),
        ]:
            self.judged(flag, one, thing)
        one = program(family("f", TWO, "kind", ((ptr(ptr(A)), B), call("f", A, ptr(B))),
                             ((A, ptr(B)), call("f", ptr(ptr(A)), B))))
        for one_p, other_p, flag in [(1, 1, True), (2, 2, True), (1, 2, False), (2, 1, False), (0, 1, False),
                                     (1, 0, False)]:
            self.judged(flag, one, ((one_p, {0: one_p, 1: one_p}), (other_p, {0: other_p, 1: other_p})))
        self.judged(True, one, ((1, {0: 1, 1: 2}), (1, {0: 3, 1: 1})))
        one = program(family("f", TWO, "kind", ((ptr(ptr(A)), B), call("f", A, ptr(B))),
                             ((A, ptr(ptr(B))), call("f", ptr(ptr(ptr(A))), B))))
        for one_p, other_p, flag in [(2, 1, False), (3, 2, False), (1, 1, False), (1, 2, False), (1, 3, False),
                                     (2, 3, False)]:
            self.judged(flag, one, ((one_p, {0: one_p, 1: one_p}), (other_p, {0: other_p, 1: other_p})))
        one = program(family("f", TWO, "kind", ((ptr(ptr(A)), B), call("f", A, ptr(B))),
                             ((A, ptr(ptr(B))), call("f", ptr(ptr(ptr(ptr(A)))), B))))
        for one_p, other_p, flag in [(2, 1, True), (4, 2, True), (3, 2, False), (1, 1, False), (2, 2, False)]:
            self.judged(flag, one, ((one_p, {0: one_p, 1: one_p}), (other_p, {0: other_p, 1: other_p})))

    def test_families_have_one_sum(self):
        one = program(family("f", KIND, "kind", ((A,), tri(call("g", A), call("f", A), call("g", ptr(A))))),
                      family("g", KIND, "kind", ((A,), call("f", A))))
        for p, flag in [((1, 0, 0, 1), True), ((0, 0, 1, 1), True), ((0, 1, 0, 0), True), ((1, 5, 2, 3), True),
                        ((1, 0, 0, 0), False),
                        ((0, 0, 0, 1), False), ((1, 0, 1, 1), False), ((1, 5, 2, 4), False)]:
            self.judged(flag, one, tuple((each, {0: each}) for each in p))

    def test_unknowns_of_a_call(self):
        """Of sort kind, in the row's patterns, and calls and LESS within its terms, in order; no others."""
        one = program(family("f", ("kind", "kind", "number"), "kind", (
            (pair(A, B), ptr(C), D),
            call("f", pair(call("g", A), less(1, 2, call("g", A), B)), call("f", A, call("g", B), 3),
                 plus(D, call("h", call("g", A)))))),
            family("g", KIND, "kind", ((A,), A)), family("h", KIND, "number", ((A,), 1)))
        calls = [each[2] for each in slow_calls(one)]
        self.assertEqual([each[1] for each in calls], ["f", "g", "g", "f", "g", "h", "g"])
        keys = [(0, 1, 2, -1, -2, -3), (0, 1, 2), (0, 1, 2), (0, 1, 2, -1), (0, 1, 2), (0, 1, 2, -1), (0, 1, 2)]
        for told in (2, 3):
            thing = tuple((0, {n: 0 for n in each}) for each in keys)
            self.judged(False, one, thing)
            f = (told, {n: told * (2 if n == -3 else 1) for n in keys[0]})
            self.judged(True, one, (f,) + thing[1:])
            self.judged(False, one, ((told, {**f[1], -3: told}),) + thing[1:])
            for k in range(7):
                for more in (-4, -3, -1, 3):
                    other = dict(thing[k][1])
                    if more in other:
                        del other[more]
                    else:
                        other[more] = 0
                    self.judged(False, one,
                                (f,) + thing[1:k] + ((0,
                                                      other),) + thing[k + 1:] if k else ((told, other),) + thing[1:])

    def test_sizes_under_other_keys_and_in_other_orders(self):
        one = program(family("f", TWO, "kind", ((A, ptr(B)), call("f", ptr(A), B)),
                             ((ptr(A), B), call("f", A, ptr(B)))))
        right = ((1, {0: 1, 1: 1}), (1, {0: 1, 1: 1}))
        self.judged(True, one, right)
        for k in range(2):
            for other in [(1, {0: 1, 2: 1}), (1, {1: 1, 0: 1}), (2, {0: 2, 1: 2}), (1, {0: 2, 1: 1}), (1, {0: 1}),
                          (1, {0: 1, 1: 1, -1: 1})]:
                thing = right[:k] + (other,) + right[k + 1:]
                self.assertIs(is_sum(one, thing), slow_sum(one, thing))
        uneven = ((1, {0: 3, 1: 1}), (1, {0: 1, 1: 3}))
        self.assertEqual([is_sum(one, thing) for thing in (uneven, uneven[::-1])],
                         [slow_sum(one, thing) for thing in (uneven, uneven[::-1])])

    def test_strange_things(self):
        one = program(SAME)
        for thing in STRANGE:
            self.assertIs(shallow(is_sum, one, thing), False)
            self.assertIs(shallow(is_sum, one, (thing,)), False)
            self.assertIs(shallow(is_sum, one, ((1, thing),)), False)
            self.assertIs(shallow(is_sum, one, ((thing, {0: 10 ** 40}),)), type(thing) is int and thing > 0)
            self.assertIs(shallow(is_sum, one, ((1, {0: thing}),)), type(thing) is int and thing > 0)


class DescentTest(unittest.TestCase):
    def told(self, one, word):
        told = shallow(descent, one)
        self.assertEqual((type(told), len(told), told[0]), (tuple, 2, word))
        self.assertEqual(descent(one), told)
        self.assertIs(is_weights(one, told[1]), word == "weights")
        self.assertIs(is_sum(one, told[1]), word == "sum")
        self.assertEqual(slow_weights(one, told[1]), word == "weights")
        self.assertEqual(slow_sum(one, told[1]), word == "sum")
        return told[1]

    def test_ordinary(self):
        self.assertEqual(self.told(program(), "weights"), {})
        self.assertEqual(self.told(program(family("f", ("flag", "kind"), "kind", ((A, B), B))), "weights"),
                         {"f": (0, 0, 0)})
        for families, word in [
            ((DOWN,), "weights"), ((SAME,), "sum"), ((TRADE,), "weights"), ((HEAVY,), "weights"), ((DOWN, SAME), "sum"),
            ((DOWN, TRADE, HEAVY), "weights"), ((family("f", KIND, "kind", ((A,), call("f", A))),), "sum"),
            ((family("f", KIND, "kind", ((A,), call("g", A))), family("g", KIND, "kind", ((A,), A))), "weights"),
            ((family("f", KIND, "kind", ((A,), call("g", A))), family("g", KIND, "kind", ((A,), call("f", A)))), "sum"),
            ((family("f", KIND, "kind", ((A,), call("g", A))), family("g", KIND, "kind", ((ptr(A),), call("f", A)))),
             "weights"),
            ((family("f", NUMBER, "number", ((A,), call("f", minus(A, 1)))),), "sum"),
            ((family("f", TWO, "kind", ((pair(A, B), C), call("f", B, pair(A, C)))),), "weights"),
            ((family("f", TWO, "kind", ((pair(A, B), C), call("f", B, pair(A, C))),
                     ((C, pair(A, B)), call("f", pair(A, C), B))),), "sum"),
            ((family("f", KIND, "kind", ((ptr(A),), call("f", call("f", A)))),), "sum"),
            ((family("f", TWO, "kind", ((ptr(A), B), call("f", A, call("f", A, B)))),), "weights"),
            ((family("f", KIND, "kind", ((ptr(A),), less(1, 2, call("f", A), INT))),), "weights"),
            ((family("f", KIND, "kind", ((ptr(A),), less(1, 2, INT, call("f", ptr(A))))),), "sum"),
            ((family("f", KIND, "kind", ((INT,), call("f", INT))),), "sum"),
            ((family("f", KIND, "kind", ((tri(A, A, A),), call("f", pair(A, A)))),), "weights"),
            ((family("f", KIND, "kind", ((pair(A, INT),), call("f", pair(A, A)))),), "sum"),
        ]:
            self.told(program(*families), word)

    def test_by_much(self):
        """Weights far apart: each family's next one has to be greater."""
        families = []
        for k, name in enumerate("abcdefg"):
            families.append(family(name, KIND, "kind", ((ptr(A),), call("abcdefgh"[k + 1], tri(A, A, tri(A, A, A))))))
        families.append(family("h", KIND, "kind", ((A,), A)))
        told = self.told(program(*families), "weights")
        self.assertGreaterEqual(told["a"][0] + told["a"][1], 7)
        families[-1] = family("h", KIND, "kind", ((ptr(A),), call("a", A)))
        self.told(program(*families), "sum")

    def test_dicts_are_new(self):
        one = program(DOWN)
        descent(one)[1].clear()
        self.told(one, "weights")
        one = program(SAME)
        descent(one)[1][0][1].clear()
        self.told(one, "sum")

    def test_the_fact_of_descent(self):
        """One of both is told, and the other kind is never found, by weights and sums that are tried."""
        chance = random.Random(1102)
        seen = {"weights": 0, "sum": 0}
        for _ in range(300):
            one = some_program(chance, 3, 3, calls=chance.choice([0.2, 0.4, 0.6]))
            if not slow_calls(one):
                continue
            told = self.told(one, descent(one)[0])
            word = descent(one)[0]
            seen[word] += 1
            for _ in range(10):
                weights = {name: (chance.randrange(5), *[chance.randrange(4) * (sort == "kind") for sort in of.sorts])
                           for name, of, _, _ in one.families}
                self.assertIs(is_weights(one, weights), slow_weights(one, weights))
                if word == "sum":
                    self.assertFalse(is_weights(one, weights))
                p = [chance.choice([0, 0, 1, 2]) for _ in slow_calls(one)]
                thing = tuple((each, {n: each + chance.choice([0, 0, 1]) for n in slow_unknowns(one, *of)})
                              for each, of in zip(p, slow_calls(one)))
                self.assertIs(is_sum(one, thing), slow_sum(one, thing))
                if word == "weights":
                    self.assertFalse(is_sum(one, thing))
            self.turned(chance, one, word, told)
        self.assertGreater(min(seen.values()), 25)

    def turned(self, chance, one, word, told):
        """What was told with one number less or more is judged as it should be."""
        for more in (-1, 1, 2):
            if word == "weights":
                name = chance.choice(list(told))
                at = chance.randrange(len(told[name]))
                thing = {**told, name: told[name][:at] + (told[name][at] + more,) + told[name][at + 1:]}
                self.assertIs(is_weights(one, thing), slow_weights(one, thing))
                many = {each: tuple(3 * weight for weight in told[each]) for each in told}
                self.assertIs(is_weights(one, many), True)
            else:
                at = chance.randrange(len(told))
                p, sizes = told[at]
                others = [(p + more, sizes)] + [(p, {**sizes, n: sizes[n] + more}) for n in sizes]
                others += [(p, {(-n - 1 if n == key else n): sizes[n] for n in sizes}) for key in sizes]
                for other in others:
                    thing = told[:at] + (other,) + told[at + 1:]
                    self.assertIs(is_sum(one, thing), slow_sum(one, thing), thing)
                for thing in (told[::-1], told[1:], told + told[:1]):
                    self.assertIs(is_sum(one, thing), slow_sum(one, thing), thing)
                self.assertIs(is_sum(one, tuple((3 * p, {n: 3 * sizes[n] for n in sizes}) for p, sizes in told)), True)

    def test_weights_bound_what_is_asked(self):
        """A use asks uses, one within the other, by at most as many calls as its weight tells."""
        chance = random.Random(1103)
        seen = 0
        for _ in range(300):
            one = some_program(chance, 2, 3, calls=0.5)
            word, weights = descent(one)
            if word == "sum":
                continue
            name, of, _, _ = chance.choice(one.families)
            use = some_use(chance, of)
            weight = weights[name][0] + sum(each * size(one, sort, thing, {}, 1, {},
                                                        ()) if "~" not in repr(thing) else 10 ** 6
                                            for each, sort, thing in zip(weights[name][1:], of.sorts, use))
            try:
                told = uses(one, name, use, (), 2000)
            except KindError:
                continue
            seen += len(told) > 1
            self.assertTrue(len(told) == 1 or weight > 0)
        self.assertGreater(seen, 2)


class LoopTest(unittest.TestCase):
    def judged(self, flag, one, thing):
        self.assertIs(shallow(is_loop, one, thing), flag, thing)
        self.assertEqual(slow_loop(one, thing), flag, thing)
        if flag:
            self.assertEqual(descent(one)[0], "sum")

    def test_ordinary(self):
        one = program(family("f", TWO, "kind", ((A, B), INT), ((ptr(A), B), call("f", ptr(B), A)),
                             ((ptr(A), ptr(B)), call("f", ptr(ptr(A)), ptr(B)))))
        for thing, flag in [
            (("f", (ptr(A), ptr(B)), (0,)), True), (("f", (ptr(A), ptr(B)), (0, 0)), True),
            (("f", (ptr(A), ptr(B)), (0,) * 4), True),
            (("f", (ptr(A), ptr(B)), (0,) * 5), False),
            (("f", (ptr(A), ptr(A)), (0,)), False), (("f", (ptr(INT), ptr(B)), (0,)), False),
            (("f", (ptr(A), ptr(INT)), (0,)), True),
            (("f", (ptr(A), ptr(("?", 999))), (0,)), True), (("f", (A, B), (0,)), False),
            (("f", (ptr(A), B), (0,)), False),
            (("f", (ptr(A), INT), (0,)), False), (("f", (A, ptr(B)), (0,)), False), (("f", (INT, INT), (0,)), False),
            (("f", (ptr(A), ptr(B)), (1,)), False), (("f", (ptr(A), ptr(B)), (-1,)), False),
            (("f", (ptr(A), ptr(B)), ()), False),
            (("f", (ptr(A), ptr(B)), [0]), False), (("f", (ptr(A), ptr(B)), (False,)), False),
            (("f", (ptr(A), ptr(B)), 0), False),
            (("f", [ptr(A), ptr(B)], (0,)), False), (("f", (ptr(A),), (0,)), False),
            (("g", (ptr(A), ptr(B)), (0,)), False),
            (["f", (ptr(A), ptr(B)), (0,)], False), (("f", (ptr(A), ptr(B))), False),
            (("f", (ptr(A), ptr(B)), (0,), ()), False),
            (("f", (ptr(A), ptr(new(0))), (0,)), False), (("f", (ptr(A), ptr(("?", 1000))), (0,)), False),
        ]:
            self.judged(flag, one, thing)

    def test_by_other_families(self):
        one = program(family("f", KIND, "kind", ((A,), tri(call("g", A, INT), call("h", A), A))),
                      family("g", TWO, "kind", ((A, B), call("h", pair(B, A)))),
                      family("h", KIND, "kind", ((pair(A, B),), pair(call("f", B), call("f", ptr(A)))), ((A,), A)))
        for thing, flag in [
            (("f", (A,), (0, 0, 0)), True), (("f", (A,), (0, 0, 1)), True), (("f", (ptr(A),), (0, 0, 0)), True),
            (("f", (ptr(INT),), (0, 0, 1)), True), (("f", (ptr(ptr(A)),), (0, 0, 1)), False),
            (("f", (INT,), (0, 0, 1)), False),
            (("f", (A,), (0, 0)), False), (("f", (A,), (0,)), False), (("f", (A,), (1, 0)), False),
            (("f", (pair(A, B),), (1, 0)), False),
            (("f", (A,), (0, 0, 0, 0, 0, 1)), True), (("h", (pair(INT, A),), (0, 0, 0)), True),
            (("h", (pair(INT, A),), (1, 0, 0)), True),
            (("h", (pair(A, B),), (0, 0, 0)), True), (("g", (A, INT), (0, 0, 0)), True),
            (("g", (A, B), (0, 0, 0)), True),
            (("g", (INT, INT), (0, 0, 0)), True), (("g", (INT, INT), (0, 1, 0)), False),
            (("g", (ptr(INT), INT), (0, 1, 0)), True),
            (("h", (A,), (0, 0, 0)), False),
        ]:
            self.judged(flag, one, thing)

    def test_which_calls(self):
        """As they are written, outer ones first; those in the last two terms of a LESS are left out."""
        one = program(family("f", ("kind", "number"), "kind", ((A, B), pair(
            call("f", call("g", call("f", ptr(A), 1)), 2),
            less(call("n", call("f", A, 3)), call("n", ptr(A)), call("f", A, 4), call("f", A, 5))))),
            family("g", KIND, "kind"), family("n", KIND, "number"))
        # The calls are f, g, f, n, f, n; the terms of the first one have a call in them.
        for step, flag in [(0, False), (1, False), (2, True), (3, False), (4, True), (5, False), (6, False),
                           (7, False)]:
            self.judged(flag, one, ("f", (A, B), (step,)))
        self.judged(True, one, ("f", (A, B), (2, 4)))
        self.judged(False, one, ("f", (A, 1), (4,)))
        self.judged(True, one, ("f", (A, 1), (2,)))
        self.judged(True, one, ("f", (A, 3), (2, 4)))
        self.judged(False, one, ("f", (A, 3), (4, 2)))
        self.judged(False, one, ("f", (INT, 3), (4, 2)))

    def test_terms_that_are_reckoned(self):
        for term, flag in [(A, True), (3, True), (plus(1, 2), False), (minus(A, 1), False), (less(1, 2, 3, 4), False),
                           (call("n", 3), False)]:
            one = program(family("f", NUMBER, "kind", ((A,), call("f", term))), family("n", NUMBER, "number"))
            self.judged(flag, one, ("f", (A,), (0,)))
        one = program(family("f", ("number", "kind"), "kind", ((A, B), call("f", A, ("opt", "yes", plus(A, 1), B)))))
        self.judged(False, one, ("f", (A, B), (0,)))

    def test_what_is_no_wish(self):
        one = program(family("f", KIND, "kind", ((A,), pair(call("f", ptr(A)), call("f", pair(A, A))))))
        for thing, flag in [
            (("f", (A,), (0,)), True), (("f", (chain(4, A),), (0,)), True), (("f", (chain(5, A),), (0,)), False),
            (("f", (A,), (0,) * 5), True), (("f", (A,), (0,) * 6), False), (("f", (chain(3, A),), (0, 0)), True),
            (("f", (chain(3, A),), (0, 0, 0)), False), (("f", (wide(19),), (1,)), False), (("f", (A,), (1, 1)), True),
            (("f", (A,), (1,) * 4), True), (("f", (A,), (1,) * 5), False), (("f", (wide(21),), (0,)), False),
        ]:
            self.judged(flag, one, thing)

    def test_choices_that_are_open(self):
        one = program(family("f", KIND, "kind", ((A,), call("f", A)), ((A,), claim("even", 0), INT)))
        self.judged(False, one, ("f", (A,), (0,)))
        self.judged(False, one, ("f", (INT,), (0,)))
        one = program(family("f", KIND, "kind", ((ptr(A),), call("f", ptr(A)))))
        self.judged(True, one, ("f", (ptr(A),), (0,)))
        self.judged(False, one, ("f", (A,), (0,)))
        self.judged(False, one, ("f", (INT,), (0,)))
        great = Table(DESK, SORTS_OF_CASES, cases_2000())
        one = program(("f", great, "kind", tuple(call("f", *row[1]) for row in great.rows)))
        self.judged(True, one, ("f", ("yes", tri(A, B, C), 7), (0,)))
        self.judged(False, one, ("f", (A, B, C), (0,)))

    def test_errors_in_their_order(self):
        unclear = table(TWO, (INT, A), (A, INT))
        for k in range(2):
            families = [SAME, ("f", unclear, "kind", (INT, INT))][::1 - 2 * k]
            for thing in STRANGE + [("same", (ptr(A),), (0,))]:
                with self.assertRaises(NotClear):
                    shallow(is_loop, program(*families), thing)
        for thing in STRANGE:
            one = program(SAME)
            self.assertIs(shallow(is_loop, one, thing), False)
            self.assertIs(shallow(is_loop, one, (thing, (ptr(A),), (0,))), False)
            self.assertIs(shallow(is_loop, one, ("same", thing, (0,))), False)
            self.assertIs(shallow(is_loop, one, ("same", (thing,), (0,))), False)
            self.assertIs(shallow(is_loop, one, ("same", (ptr(A),), thing)), thing == (0,))
            self.assertIs(shallow(is_loop, one, ("same", (ptr(A),), (thing,))), type(thing) is int and thing == 0)

    def test_one_thing_otherwise_at_any_place(self):
        one = program(family("f", TWO, "kind", ((A, B), pair(call("f", B, ptr(A)), call("g", A)))),
                      family("g", KIND, "kind", ((A,), call("f", A, A))))
        right = ("f", (A, ptr(B)), (1, 0, 0, 0))
        seen = [0, 0]
        for told in (right, ("f", (A, B), (0,)), ("g", (ptr(A),), (0, 1))):
            for thing in other_things(told, [None, True, 0, 1, 2, "f", "g", A, B, INT, (), [], ptr(A), new(0)]):
                flag = self.slow(one, thing)
                seen[flag] += 1
                self.assertIs(is_loop(one, thing), flag, thing)
        self.assertGreater(min(seen), 20)

    def slow(self, one, thing):
        """What slow_loop tells, but that strange things that it cannot look into are none."""
        try:
            return slow_loop(one, thing)
        except (TypeError, IndexError):
            return False

    def test_the_fact_of_loops(self):
        """With a loop there are no weights, and no use of its bundle comes to a worth."""
        chance = random.Random(1104)
        seen = 0
        for _ in range(400):
            one = some_program(chance, 2, 3, clear=True, calls=0.6)
            name, of, _, _ = chance.choice(one.families)
            bundle = tuple(some_term(chance, sort, {0: "kind", 1: "kind", 2: "number", 3: "flag"}, {},
                                     2) for sort in of.sorts)
            for steps in [(0,), (1,), (0, 0), (0, 1), (1, 0)]:
                thing = (name, bundle, steps)
                flag = slow_loop(one, thing)
                self.assertIs(is_loop(one, thing), flag)
                if not flag:
                    continue
                seen += 1
                self.assertEqual(descent(one)[0], "sum")
                for _ in range(3):
                    filling = {0: chance.choice([INT, ptr(new(0))]), 1: pair(INT, new(1)), 2: chance.choice([0, 1, 7]),
                               3: "no"}
                    use = tuple(put_for(term, filling) for term in bundle)
                    with self.assertRaises(Stop):
                        SlowReckoner(one, (), 60).worth(name, use)
        self.assertGreater(seen, 20)


if __name__ == "__main__":
    unittest.main()
