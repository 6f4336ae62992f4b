"""[9.4]: terms lessened ahead of filling."""

import random
import unittest

from nearestkinds.early import early
from nearestkinds.errors import KindError, NoMany, NotClear, NoTerm, NoWish, TooGreat, TooMany
from nearestkinds.lessening import lessened
from nearestkinds.programs import Program
from nearestkinds.tables import Table
from tests.great import SORTS_OF_CASES, cases_2000
from tests.samples import STRANGE, chain, shallow, wide
from tests.slow import A, B, C, DESK, INT, KIND, claim, match, new, other_things, pair, ptr, tri
from tests.slow_programs import (SIGNS, SlowReckoner, Stop, call, count_of, depth_of, family, less, minus, parts_of,
                                 plus, program, put_for, signatures_of, some_program, some_term, times)

NUMBER = ("number",)
TWO = ("kind", "kind")
D = ("?", 3)

# Pointers taken off; with a row that is nearer for pointers to ints.
OFF = family("off", KIND, "kind", ((A,), A), ((ptr(A),), call("off", A)), ((ptr(INT),), pair(INT, INT)))
SWAP = family("swap", KIND, "kind", ((pair(A, B),), pair(B, A)), ((tri(A, B, C),), tri(C, B, A)))
SIZE = family("size", KIND, "number", ((A,), 7), ((ptr(A),), plus(1, call("size", A))), ((INT,), 0))
BUILD = family("build", NUMBER, "kind", ((A,), less(A, 1, INT, ptr(call("build", minus(A, 1))))))
FLAGS = family("flags", ("flag", "kind"), "flag", (("yes", A), "no"), (("no", A), "yes"), (("no", INT), "no"))
ALL = program(OFF, SWAP, SIZE, BUILD, FLAGS)


class SlowLessener:
    """A term lessened, by calls within calls."""

    def __init__(self, told, most):
        self.families, self.most, self.many = {each[0]: each for each in told.families}, most, 0

    def lessen(self, term, filling):
        if not isinstance(term, tuple):
            return term
        if term[0] == "?":
            return filling.get(term[1], term)
        if term[0] == "<":
            one, other = self.lessen(term[1], filling), self.lessen(term[2], filling)
            if isinstance(one, int) and isinstance(other, int):
                return self.lessen(term[3 if one < other else 4], filling)
            return self.kept(("<", one, other, put_for(term[3], filling), put_for(term[4], filling)))
        things = [self.lessen(part, filling) for part in parts_of(term)]
        if term[0] in SIGNS:
            if not all(isinstance(thing, int) for thing in things):
                return self.kept((term[0], *things))
            told = SIGNS[term[0]](*things)
            if abs(told) >= 10 ** 1000:
                raise Stop("TooGreat")
            return told
        if term[0] != "!":
            return self.kept((term[0], *things))
        found = self.early(term[1], tuple(things))
        if found is None:
            return self.kept(("!", term[1], tuple(things)))
        if self.many == self.most:
            raise Stop("TooMany", self.most)
        self.many += 1
        return self.lessen(*found)

    def kept(self, term):
        if count_of(term) > 2000 or depth_of(term) > 200:
            raise Stop("TooGreat")
        return term

    def early(self, name, terms):
        _, one, _, bodies = self.families[name]
        try:
            told = early(one, (terms, None))
        except (NoWish, TooMany):
            return None
        if told is None or told[0] != "row":
            return None
        row = [row[0] for row in one.rows].index(told[1])
        return bodies[row], match(one.rows[row][1], terms)


class LessenedTest(unittest.TestCase):
    def told(self, one, term, came_to, most=2000):
        self.assertEqual(shallow(lessened, one, term, most), came_to)

    def raised(self, error, one, term, most=2000):
        with self.assertRaises(error) as told:
            shallow(lessened, one, term, most)
        self.assertIs(type(told.exception), error)
        return vars(told.exception)

    def test_what_is_lessened_already(self):
        for term in [A, INT, ptr(A), pair(("?", 999), ("?", 0)), ("opt", "yes", 3, A), ("opt", A, B, C), chain(9, B),
                     call("off", A), ptr(call("off", ptr(A))), ptr(call("swap", A)),
                     ("opt", "yes", call("size", A), INT), ("opt", call("flags", A, B), plus(1, C), INT),
                     ("opt", "no", times(B, 3), INT), less(A, 1, INT, ptr(INT)), less(1, A, INT, ptr(INT))]:
            self.told(ALL, term, term)
        self.told(program(), pair(A, ptr(INT)), pair(A, ptr(INT)))

    def test_calls(self):
        for term, came_to in [
            (call("off", INT), INT), (call("off", ptr(INT)), pair(INT, INT)),
            (call("off", ptr(ptr(INT))), pair(INT, INT)), (call("off", pair(A, B)), pair(A, B)),
            (call("off", ptr(pair(A, INT))), pair(A, INT)), (call("off", ptr(ptr(A))), call("off", ptr(A))),
            (call("swap", pair(A, B)), pair(B, A)), (call("swap", pair(B, A)), pair(A, B)),
            (call("swap", tri(C, ptr(A), INT)), tri(INT, ptr(A), C)), (call("swap", INT), call("swap", INT)),
            (ptr(call("swap", pair(D, D))), ptr(pair(D, D))), (call("build", 3), chain(3, INT)),
            (("opt", "yes", call("size", ptr(ptr(INT))), INT), ("opt", "yes", 2, INT)),
            (("opt", "yes", call("size", pair(A, B)), INT), ("opt", "yes", 7, INT)),
            (("opt", "yes", call("size", chain(3, A)), INT),
             ("opt", "yes", plus(1, plus(1, plus(1, call("size", A)))), INT)
             ),
            (("opt", call("flags", "yes", A), 1, INT), ("opt", "no", 1, INT)),
            (("opt", call("flags", "no", ptr(A)), 1, INT), ("opt", "yes", 1, INT)),
            (("opt", call("flags", call("flags", "yes", A), INT), 1, B), ("opt", "no", 1, B)),
        ]:
            self.told(ALL, term, came_to)

    def test_inner_ones_first(self):
        self.told(ALL, call("off", call("off", ptr(INT))), pair(INT, INT))
        self.told(ALL, call("swap", call("swap", pair(A, B))), pair(A, B))
        self.told(ALL, call("swap", pair(call("swap", pair(A, B)), C)), pair(C, pair(B, A)))
        self.told(ALL, call("off", call("swap", A)), call("off", call("swap", A)))
        # A call whose terms have a call left in them is no wish.
        self.told(ALL, call("swap", pair(call("off", A), B)), call("swap", pair(call("off", A), B)))
        self.told(ALL, call("build", plus(1, 2)), chain(3, INT))
        self.told(ALL, call("build", call("size", ptr(INT))), ptr(INT))
        self.told(ALL, call("build", plus(A, 2)), call("build", plus(A, 2)))
        self.told(ALL, call("build", less(A, 2, 3, 4)), call("build", less(A, 2, 3, 4)))

    def test_from_the_first_on(self):
        """By which of two ways it is raised that there are too many, or what is too great, tells what came first."""
        one = program(BUILD, family("big", NUMBER, "number", ((A,), times(call("big", minus(A, 1)), 10 ** 19)),
                                    ((0,), 1)))
        many, great = call("build", 9), ("opt", "yes", call("big", 60), INT)
        self.assertEqual(self.raised(TooGreat, one, great, 2000), {})
        self.assertEqual(self.raised(TooMany, one, pair(many, great), 5), {"most": 5})
        self.assertEqual(self.raised(TooMany, one, pair(great, many), 65 - 5), {"most": 60})
        self.raised(TooGreat, one, pair(great, many), 61)
        self.raised(TooGreat, one, pair(great, many), 65)
        self.raised(TooMany, one, pair(many, great), 65)
        self.raised(TooGreat, one, pair(many, great), 10 + 61)

    def test_sums(self):
        for term, came_to in [
            (plus(2, 3), 5), (minus(2, 3), -1), (times(-2, 3), -6), (plus(2, times(3, 4)), 14),
            (plus(A, 3), plus(A, 3)),
            (plus(A, plus(1, 2)), plus(A, 3)), (times(plus(1, 1), minus(A, plus(1, 1))), times(2, minus(A, 2))),
            (times(0, A), times(0, A)), (minus(A, A), minus(A, A)),
        ]:
            self.told(ALL, ("opt", "yes", term, INT), ("opt", "yes", came_to, INT))

    def test_a_less(self):
        swap, turned = call("swap", pair(INT, ptr(INT))), pair(ptr(INT), INT)
        for term, came_to in [
            (less(1, 2, swap, A), turned), (less(2, 1, swap, A), A), (less(2, 2, A, swap), turned),
            (less(1, 2, A, swap), A),
            (less(plus(1, 1), 3, swap, A), turned), (less(call("size", INT), 0, swap, B), B),
            # In the last two terms of one that stays nothing is done; in the first two it is.
            (less(A, 2, swap, swap), less(A, 2, swap, swap)), (less(A, plus(1, 1), swap, B), less(A, 2, swap, B)),
            (less(plus(1, 1), A, swap, call("build", 1)), less(2, A, swap, call("build", 1))),
            (less(A, 1, less(1, 2, INT, INT), INT), less(A, 1, less(1, 2, INT, INT), INT)),
            (less(1, 2, less(A, 2, swap, INT), INT), less(A, 2, swap, INT)),
            (less(1, 2, less(3, 2, INT, swap), INT), turned), (ptr(less(1, 2, swap, A)), ptr(turned)),
            (pair(less(A, 2, swap, swap), swap), pair(less(A, 2, swap, swap), turned)),
            (call("off", less(1, 2, INT, A)), INT),
            (call("off", less(A, 2, INT, INT)), call("off", less(A, 2, INT, INT))),
        ]:
            self.told(ALL, term, came_to)
        # What is not counted is not reckoned.
        self.told(ALL, less(1, 2, INT, call("build", 300)), INT, 1)

    def test_filled_before_and_behind(self):
        """A body's unknowns are its row's, and are filled, in LESS too; those of the term stand on."""
        one = program(family("f", ("kind", "kind", "number"), "kind",
                             ((A, B, C), less(C, 3, pair(B, call("g", A)), call("f", B, A, C))),
                             ((A, B, 9), tri(B, A, call("g", pair(B, A))))),
                      family("g", KIND, "kind", ((A,), call("h", A, ptr(A)))),
                      family("h", TWO, "kind", ((A, B), pair(B, A))))
        one_a, one_b = pair(ptr(A), A), pair(ptr(B), B)
        self.assertNotEqual(one_a, one_b)
        self.told(one, call("f", A, B, 9), tri(B, A, pair(ptr(pair(B, A)), pair(B, A))))
        self.told(one, call("f", B, A, 9), tri(A, B, pair(ptr(pair(A, B)), pair(A, B))))
        self.told(one, call("f", ptr(B), A, 2), pair(A, pair(ptr(ptr(B)), ptr(B))))
        self.told(one, call("f", ptr(B), A, D), call("f", ptr(B), A, D))
        self.told(one, call("g", ("?", 77)), pair(ptr(("?", 77)), ("?", 77)))
        one = program(family("f", ("kind", "number"), "kind", ((A, B), less(B, 3, pair(A, call("f", A, B)), ptr(A)))))
        self.told(one, call("f", C, A), less(A, 3, pair(C, call("f", C, A)), ptr(C)))
        self.told(one, call("f", pair(B, C), A), less(A, 3, pair(pair(B, C), call("f", pair(B, C), A)),
                                                      ptr(pair(B, C))))
        self.told(one, call("f", C, 3), ptr(C))
        self.assertEqual(self.raised(TooMany, one, call("f", C, 2), 50), {"most": 50})

    def test_wishes(self):
        """Terms that are too great for a wish, or have new kinds, are left as they are."""
        one = program(family("f", TWO, "kind", ((A, B), A)))
        for term, gives in [
            (call("f", INT, chain(4, A)), True), (call("f", INT, chain(5, A)), False), (call("f", wide(19), A), True),
            (call("f", wide(19), ptr(A)), False), (call("f", wide(17), ptr(ptr(A))), True),
        ]:
            self.told(one, term, term[2][0] if gives else term)
        # A call may be made with what has become too great on the way.
        one = program(family("f", KIND, "kind", ((A,), call("g", ptr(ptr(A))))), family("g", KIND, "kind", ((A,), INT)))
        self.told(one, call("f", chain(2, A)), INT)
        self.told(one, call("f", chain(3, A)), call("g", chain(5, A)))

    def test_choices_that_are_none_or_open(self):
        one = program(family("f", KIND, "kind", ((ptr(A),), A), ((pair(A, B),), claim("even", 0), INT)),
                      family("g", KIND, "kind", ((A,), INT), ((A,), claim("even", 0), ptr(A))))
        for term in [call("f", INT), call("f", A), call("f", pair(INT, INT)), call("g", A), call("g", INT)]:
            self.told(one, term, term)
        self.told(one, call("f", ptr(pair(A, INT))), pair(A, INT))

    def test_too_many_cases(self):
        """Where early raises that there are too many the call stays."""
        one = Table(DESK, SORTS_OF_CASES, cases_2000())
        told = Program(DESK, (("f", one, "kind", (INT,) * len(one.rows)),))
        term = call("f", A, B, C)
        self.assertEqual(early(one, ((A, B, C), None)), None)
        self.told(told, call("f", "yes", tri(INT, B, C), 7), INT)
        self.told(told, term, term)
        # Each word makes a case: of six sizes there are 729, of seven 2187, though there is but one row.
        told = program(family("f", TWO, "kind", ((A, B), A)))

        def sizes(*numbers):
            kind = INT
            for n in numbers:
                kind = ("mode", ("?", n), kind)
            return kind

        self.told(told, call("f", sizes(1, 2, 3), sizes(4, 5, 6)), sizes(1, 2, 3))
        term = call("f", sizes(1, 2, 3, 7), sizes(4, 5, 6))
        with self.assertRaises(TooMany):
            early(told.families[0][1], (term[2], None))
        self.told(told, term, term)
        self.told(told, call("f", term, sizes(1)), call("f", term, sizes(1)))

    def test_no_terms(self):
        for term in STRANGE + [3, "yes", plus(1, 2), ("?", 1000), ptr(new(0)), new(0), call("size", INT),
                               call("none", A),
                               call("off", 3), call("off", A, A), ("!", "off", [A]), pair(A, ("opt", A, 3, INT)),
                               ("opt", A, A, INT), pair(call("build", A), A), less(A, 1, A, INT), less(1, 2, 3, 4),
                               ("opt", "yes", call("off", A), INT), chain(10, INT), wide(61), [INT]]:
            if term != INT:
                self.raised(NoTerm, ALL, term)
                self.raised(NoTerm, ALL, term, None)
        for term in [chain(9, A), ptr(wide(59))]:
            self.told(ALL, term, term)

    def test_one_thing_otherwise_at_any_place(self):
        right = pair(call("off", ptr(A)), ("opt", B, plus(1, C), less(C, 2, call("build", 3), D)))
        many = [0, 0]
        for thing in other_things(right, [None, True, 1, "yes", "off", A, B, C, new(0), [], (), INT, plus(1, 2)]):
            try:
                lessened(ALL, thing, 2000)
                told = True
            except NoTerm:
                told = False
            many[told] += 1
            self.assertEqual(told, self.fits("kind", thing, {}), thing)
        self.assertGreater(min(many), 5)

    def fits(self, sort, term, found):
        """Whether a thing is a term of ALL, by calls within calls."""
        if not isinstance(term, tuple):
            words = dict(DESK.lists).get(sort, ())
            return type(term) is int and sort == "number" or type(term) is str and term in words
        if len(term) == 2 and term[0] == "?":
            return type(term[1]) is int and 0 <= term[1] < 1000 and found.setdefault(term[1], sort) == sort
        if not term or type(term[0]) is not str:
            return False
        inner, sorts = term[1:], None
        if term[0] == "!":
            told = len(term) == 3 and type(term[1]) is str and signatures_of(ALL).get(term[1])
            if not told or told[1] != sort or type(term[2]) is not tuple:
                return False
            inner, sorts = term[2], told[0]
        elif term[0] == "<":
            sorts = ("number", "number", sort, sort)
        elif term[0] in SIGNS and sort == "number":
            sorts = ("number", "number")
        elif sort == "kind":
            sorts = dict(DESK.heads).get(term[0])
        if sorts is None or len(sorts) != len(inner):
            return False
        return all([self.fits(*each, found) for each in zip(sorts, inner)])

    def test_errors_in_their_order(self):
        unclear = program(OFF, family("f", TWO, "kind", ((INT, A), A), ((A, INT), A)))
        for most in STRANGE + [0, -1, 2001, True, False, "5", (5,)]:
            if type(most) is not int or not 1 <= most <= 2000:
                self.raised(NoMany, ALL, INT, most)
                self.raised(NoMany, unclear, INT, most)
                self.raised(NoTerm, ALL, None, most)
        self.raised(NotClear, unclear, INT)
        self.raised(NotClear, unclear, call("off", INT))
        self.raised(NotClear, unclear, call("off", call("f", INT, INT)), 1)
        self.raised(NotClear, program(unclear.families[1], OFF), INT)
        self.raised(NoTerm, unclear, 3)
        self.told(ALL, call("off", INT), INT, 1)
        self.told(ALL, call("off", INT), INT, 2000)

    def test_just_as_many_as_may_be(self):
        for term, many in [(call("off", INT), 1), (call("off", ptr(ptr(INT))), 2), (call("build", 3), 4),
                           (pair(call("build", 2), call("swap", pair(A, B))), 4),
                           (call("swap", call("swap", pair(A, B))), 2),
                           (call("build", 199), 200), (less(1, 2, call("off", INT), call("off", INT)), 1)]:
            shallow(lessened, ALL, term, many)
            if many > 1:
                self.assertEqual(self.raised(TooMany, ALL, term, many - 1), {"most": many - 1})
        # Those that stay do not count.
        self.told(ALL, pair(call("off", A), pair(call("off", A), call("off", INT))),
                  pair(call("off", A), pair(call("off", A), INT)), 1)
        one = program(family("f", KIND, "kind", ((A,), call("f", A))))
        self.assertEqual(self.raised(TooMany, one, call("f", A), 2000), {"most": 2000})
        one = program(family("f", KIND, "kind", ((A,), ptr(call("f", A)))))
        self.assertEqual(self.raised(TooMany, one, call("f", A), 2000), {"most": 2000})
        one = program(family("f", NUMBER, "kind", ((A,), call("f", minus(A, 1))), ((0,), INT)))
        self.told(one, call("f", 1999), INT)
        self.assertEqual(self.raised(TooMany, one, call("f", 2000), 2000), {"most": 2000})

    def test_what_is_too_great(self):
        self.told(ALL, call("build", 199), chain(199, INT))
        self.raised(TooGreat, ALL, call("build", 200))
        # Eighteen parts a time; of a call that stays, too.
        for many, kind, parts in [(110, INT, 1981), (111, INT, 1999), (111, ptr(INT), 2000),
                                  (111, pair(INT, INT), None),
                                  (112, INT, None)]:
            for term, more in [(call("long", many, kind), 0),
                               (call("off", pair(call("off", A), call("long", many, kind))), 4)]:
                if parts and parts + more <= 2000:
                    self.assertEqual(count_of(shallow(lessened, LONG, term, 2000)), parts + more)
                else:
                    self.raised(TooGreat, LONG, term)
        self.told(LONG, call("two", A, call("long", 110, INT)),
                  call("two", A, lessened(LONG, call("long", 110, INT), 200)))
        self.raised(TooGreat, LONG, call("two", call("long", 55, INT), call("long", 56, INT)))
        self.assertEqual(count_of(lessened(LONG, call("two", call("long", 55, INT), call("long", 55, INT)), 200)), 1983)
        # Sums that stay, of 199 deep and of one more.
        adds = family("adds", ("number", "kind"), "number",
                      ((A, B), less(A, 1, call("size", B), plus(1, call("adds", minus(A, 1), B)))))
        one = program(adds, family("size", KIND, "number", ((ptr(A),), 1)))
        for many, fits in [(197, True), (198, True), (199, False)]:
            term = ("opt", "yes", call("adds", many - 1, A), INT)
            if fits:
                self.assertEqual(depth_of(shallow(lessened, one, term, 2000)), many + 2)
            else:
                self.raised(TooGreat, one, term)
        # A LESS that stays.
        one = program(family("f", ("number", "kind"), "kind", ((A, B), less(A, call("g", 0, B), INT, ptr(INT)))),
                      family("g", ("number", "kind"), "number",
                             ((A, B), less(A, 190, plus(1, call("g", plus(A, 1), B)), call("size", B)))),
                      family("size", KIND, "number", ((ptr(A),), 1)))
        self.assertEqual(depth_of(shallow(lessened, one, call("f", C, B), 2000)), 193)
        self.assertEqual(depth_of(shallow(lessened, one, chain(7, call("f", C, B)), 2000)), 200)
        self.raised(TooGreat, one, chain(8, call("f", C, B)))

    def test_great_numbers(self):
        one = program(family("f", ("number", "number"), "kind",
                             ((A, B), less(B, 1, ("opt", "yes", A, INT), call("f", times(A, 10), minus(B, 1))))))
        self.told(one, call("f", 1, 999), ("opt", "yes", 10 ** 999, INT))
        self.raised(TooGreat, one, call("f", 1, 1000))
        self.told(one, call("f", -1, 999), ("opt", "yes", -10 ** 999, INT))
        self.raised(TooGreat, one, call("f", -1, 1000))

    def test_each_row_that_is_early_by_numbers_and_words(self):
        one = program(family("f", ("number", "size"), "kind", ((A, B), ptr(("opt", "yes", A, INT))),
                             ((3, "small"), INT),
                             ((3, B), ptr(INT)), ((A, "large"), pair(INT, INT)), ((3, "large"), tri(INT, INT, INT))))
        for n, size, told in [(3, "small", INT), (3, "middle", ptr(INT)), (4, "middle", ptr(("opt", "yes", 4, INT))),
                              (4, "large", pair(INT, INT)), (3, "large", tri(INT, INT, INT)),
                              (A, "large", None), (3, A, None), (A, "small", None), (A, B, None), (7, A, None)]:
            self.told(one, call("f", n, size), told or call("f", n, size))

    def test_arguments_stay(self):
        term = pair(call("off", ptr(INT)), A)
        lessened(ALL, term, 5)
        self.assertEqual(term, pair(call("off", ptr(INT)), A))

    def test_random(self):
        """As the slow way tells; and the fact of early reduction: whatever fills it, it comes to the same."""
        chance = random.Random(941)
        seen = {"TooMany": 0, "TooGreat": 0, "same": 0, "less": 0, "worth": 0}
        for _ in range(400):
            one = some_program(chance, 3, 3, clear=True, calls=chance.choice([0.3, 0.5]))
            sorts = {0: "kind", 1: "kind", 2: "number", 3: "flag"}
            term = some_term(chance, "kind", sorts, signatures_of(one), 4, 0.6)
            if count_of(term) > 60:
                continue
            most = chance.choice([1, 3, 40])
            slow = SlowLessener(one, most)
            try:
                told = slow.lessen(term, {})
            except Stop as stop:
                with self.assertRaises(KindError) as raised:
                    shallow(lessened, one, term, most)
                self.assertEqual((type(raised.exception).__name__, *vars(raised.exception).values()), stop.args)
                seen[stop.args[0]] += 1
                continue
            self.told(one, term, told, most)
            seen["same" if told == term else "less"] += 1
            for _ in range(4):
                facts = tuple((name, kind) for name in ("even",
                                                        "odd") for kind in (INT, ptr(INT)) if chance.random() < 0.5)
                filling = {0: chance.choice([INT, ptr(INT), new(0)]),
                           1: chance.choice([pair(INT, new(1)), ptr(ptr(INT))]),
                           2: chance.choice([0, 1, 2, 10]), 3: chance.choice(["yes", "no"])}
                try:
                    right = SlowReckoner(one, facts, 50).term(put_for(term, filling), {})
                except Stop:
                    continue
                seen["worth"] += told != term
                self.assertEqual(SlowReckoner(one, facts, 2000).term(put_for(told, filling), {}), right)
        self.assertGreater(min(seen["TooMany"], seen["same"], seen["less"], seen["worth"]), 10)


LONG = program(family("long", ("number", "kind"), "kind", ((A, B), pair(wide(17), call("long", minus(A, 1), B))),
                      ((0, B), B)),
               family("two", TWO, "kind", ((INT, INT), INT)), OFF)


if __name__ == "__main__":
    unittest.main()
