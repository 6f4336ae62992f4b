"""[9.1] to [9.3]: programs, what their uses come to, and records."""

import random
import unittest

from nearestkinds.errors import (BadProgram, KindError, NeedsItself, NoFacts, NoFamily, NoMany, NoUse, TooGreat,
                                 TooMany, Unclear, Unmet)
from nearestkinds.programs import Program, is_record, record, uses, worth
from nearestkinds.tables import Table
from nearestkinds.things import Book
from tests.samples import STRANGE, chain, shallow, wide
from tests.slow import A, B, C, DESK, INT, KIND, claim, new, other_things, pair, ptr, some_facts, some_use, table, tri
from tests.slow_programs import (call, family, less, minus, plus, program, slow_reckoned, some_program, times)

NUMBER = ("number",)
TWO = ("kind", "kind")

# How many pointers there are around what is no pointer; and the numbers from 0 on as kinds.
COUNT = family("count", KIND, "number", ((A,), 0), ((ptr(A),), plus(1, call("count", A))))
BUILD = family("build", NUMBER, "kind", ((A,), less(A, 1, INT, ptr(call("build", minus(A, 1))))))
FIB = family("fib", NUMBER, "number",
             ((A,), less(A, 2, A, plus(call("fib", minus(A, 1)), call("fib", minus(A, 2))))))
POWER = family("power", ("number", "number"), "number",
               ((A, B), times(A, call("power", A, minus(B, 1)))), ((A, 0), 1))
DOWN = family("down", NUMBER, "number", ((A,), call("down", minus(A, 1))), ((0,), 0))
WORDY = family("wordy", ("flag", "kind"), "size", (("yes", A), "small"), (("no", A), call("wordy", "yes", A)),
               (("no", INT), "large"))
ALL = program(COUNT, BUILD, FIB, POWER, DOWN, WORDY)


class ProgramTest(unittest.TestCase):
    def test_what_is_kept(self):
        families = (COUNT, BUILD)
        one = Program(DESK, families)
        self.assertEqual(vars(one), {"book": DESK, "families": families})
        self.assertEqual(Program(DESK, ()).families, ())

    def test_equal(self):
        self.assertEqual(Program(DESK, (COUNT, BUILD)), Program(DESK, (COUNT, BUILD)))
        self.assertNotEqual(Program(DESK, (COUNT, BUILD)), Program(DESK, (BUILD, COUNT)))
        self.assertNotEqual(Program(DESK, (COUNT,)), Program(DESK, ()))
        self.assertNotEqual(Program(DESK, ()), Program(Book((), (), ()), ()))
        self.assertNotEqual(Program(DESK, ()), (DESK, ()))
        self.assertFalse(Program(DESK, ()) == Table(DESK, KIND, ()))
        self.assertNotEqual(program(family("f", KIND, "kind", ((A,), A))),
                            program(family("f", KIND, "kind", ((A,), INT))))

    def bad(self, part, families, book=DESK):
        with self.assertRaises(BadProgram) as told:
            shallow(Program, book, families)
        self.assertEqual(told.exception.part, part)
        self.assertIs(type(told.exception.part), type(part))

    def test_no_families(self):
        for thing in STRANGE + [list(ALL.families), {0: COUNT}]:
            if thing != () and type(thing) is not tuple:
                self.bad("families", thing)
        rows = [family("abcdefghi"[k], KIND, "kind") for k in range(9)]
        self.assertEqual(len(program(*rows[:8]).families), 8)
        self.bad("families", tuple(rows))
        self.bad("families", (None,) * 9)

    def test_families_that_are_none(self):
        name, one, sort, bodies = COUNT
        other = Table(Book(DESK.lists, DESK.heads, ("even",)), KIND, ())
        for thing in [list(COUNT), COUNT[:3], COUNT + ((),), ("Count", one, sort, bodies), ("", one, sort, bodies),
                      ("abcdefghi", one, sort, bodies), (name, one.rows, sort, bodies), (name, other, sort, ()),
                      (name, None, sort, bodies), (name, one, "kinds", bodies), (name, one, "int", bodies),
                      (name, one, None, bodies), (name, one, sort, list(bodies)), (name, one, sort, bodies[:1]),
                      (name, one, sort, bodies + (0,)), (name, one, sort, None), (name, one, sort, {0: 0, 1: 1}),
                      COUNT, ("build", one, sort, bodies)] + STRANGE:
            self.bad(2, (COUNT, BUILD, thing))
            if thing not in (COUNT, ("build", one, sort, bodies)):
                self.bad(0, (thing, BUILD, BUILD))
        for k in range(4):
            for thing in STRANGE:
                if thing not in ("int", "yes", "kind", (), 0) or type(thing) is bool:
                    self.bad(0, (COUNT[:k] + (thing,) + COUNT[k + 1:],))
        # A table of an equal book is one of the book.
        same = Table(Book(DESK.lists, DESK.heads, DESK.claims), KIND, ())
        self.assertEqual(program(("f", same, "flag", ())).families[0][0], "f")

    def test_whatever_stands_in_bodies_comes_later(self):
        wrong = COUNT[:3] + ((None, []),)
        self.bad(1, (wrong, COUNT))
        self.bad(1, (wrong, None))
        self.bad(2, (COUNT, wrong[:3] + ((),), None)[:1] + (("build",) + wrong[1:], None))
        self.bad(0, (wrong,))
        self.bad(1, (COUNT, ("f",) + wrong[1:], ("g",) + wrong[1:]))
        self.bad(2, (COUNT, BUILD, ("g",) + wrong[1:]))

    def test_bodies(self):
        """Each body with the sort of the worth: the row's patterns have a kind, a number, a flag, a size, and parts."""
        sorts = ("kind", "number", "flag", "size")
        patterns = (("opt", ("?", 5), ("?", 6), pair(A, ("?", 1))), ("?", 2), ("?", 3), ("?", 4))
        others = (family("f", ("kind", "number"), "kind"), family("g", ("flag",), "number"),
                  family("h", ("size",), "flag"))
        for sort, right, wrong in [
            ("kind", [A, B, INT, ptr(A), tri(A, INT, B), ("opt", "no", 3, A), ("opt", ("?", 5), ("?", 6), A),
                      ("mode", ("?", 4), INT), call("f", A, 3), call("f", call("f", A, 1), plus(1, ("?", 2))),
                      less(1, ("?", 6), A, INT), ("opt", call("h", "small"), call("g", "yes"), INT),
                      call("me", INT, 0, "no", "large"), ("opt", less(1, 2, "no", ("?", 3)), times(2, 3), A),
                      less(less(1, 2, 3, 4), call("g", ("?", 5)), less(1, 2, A, B), INT)],
             [C, ("?", 3), ("?", 7), ("?", 20), ("?", 1000), ("?", -1), ("?", True), 3, "yes", new(0), ptr(new(0)),
              ptr(3),
              ptr("yes"), ("opt", "small", 3, A), ("opt", "no", A, A), ("opt", "no", True, A), ("pair", A),
              ("pair", A, B, A),
              ("nohead",), ("int", ()), (), [], ("ptr", [A]), plus(1, 2), call("g", "yes"), call("h", "small"),
              call("f", A), call("f", A, 3, 3), call("f", 3, A), call("f", A, True), ("!", "f", [A, 3]),
              ("!", "f", A, 3), ("!", "f"), ("!", "z", (A, 3)), ("!", ("f",), (A, 3)), ("!", "f", ()),
              less(1, 2, A, 3), less(1, 2, 3, A), less(A, 2, A, A), less(1, A, A, A), ("<", 1, 2, A),
              ("<", 1, 2, A, A, A),
              (">", 1, 2, A, A), ("<", (1, 2, A, A))]),
            ("number", [0, -3, 10 ** 19, ("?", 2), ("?", 6), plus(1, 2), minus(("?", 2), 2),
                        times(1, plus(2, ("?", 6))),
                        call("g", ("?", 5)), less(1, 2, 3, 4), less(1, 2, call("g", "no"), plus(1, 1))],
             [A, ("?", 3), True, False, None, "3", 3.0, INT, "yes", ("+", 1), ("+", 1, 2, 3), ("+", (1, 2)),
              ("/", 1, 2),
              plus(1, A), plus(INT, 1), plus("yes", 1), plus(1, True), call("f", A, 3), less(1, 2, 3, A),
              ("+", 1, [2]), ["+", 1, 2]]),
            ("flag", ["yes", "no", ("?", 3), ("?", 5), call("h", ("?", 4)), less(1, 2, "yes", ("?", 3))],
             ["small", "maybe", "", ("?", 4), A, 3, INT, ("yes",), b"yes", call("g", "yes"), less(1, 2, "yes", "small"),
              plus("yes", "no"), None]),
            ("size", ["small", ("?", 4), less(1, 2, "large", "small")], ["yes", ("?", 3), call("h", "small")]),
        ]:
            for body, told in [(each, True) for each in right] + [(each, False) for each in wrong + STRANGE]:
                if not told and body == "yes" and sort == "flag":
                    continue
                if not told and body in (0, 1, -1, 10 ** 30) and type(body) is int and sort == "number":
                    continue
                families = others + (("me", table(sorts, patterns), sort, (body,)),)
                if told:
                    self.assertEqual(Program(DESK, families).families, families)
                elif (sort, body) not in (("kind", INT), ("number", plus(1, 2))):
                    self.bad(3, families)

    def test_unknowns_of_the_row_alone(self):
        self.bad(0, (family("f", KIND, "kind", ((A,), A), ((INT,), INT))[:3] + ((INT, A),),))
        self.bad(0, (("f", table(KIND, (A,), (INT,)), "kind", (B, INT)),))
        self.assertTrue(program(("f", table(KIND, (A,), (ptr(B),)), "kind", (A, B))))

    def test_calls_of_later_families(self):
        first = family("f", KIND, "kind", ((A,), call("g", A)))
        self.assertTrue(program(first, family("g", KIND, "kind")))
        self.bad(0, (first,))
        self.bad(0, (first, family("g", KIND, "number")))
        self.bad(0, (first, family("g", TWO, "kind")))
        self.bad(0, (first, family("h", KIND, "kind")))

    def test_as_deep_as_terms_may_be(self):
        for deep in range(1, 14):
            nine = deep - 1
            self.fits(deep <= 10, chain(nine, A))
            inner = A
            for _ in range(nine):
                inner = call("f", inner)
            self.fits(deep <= 10, inner)
            inner = INT
            for _ in range(nine):
                inner = less(1, 2, inner, A)
            self.fits(deep <= 10, inner)
            inner = 1
            for _ in range(nine - 1):
                inner = plus(inner, 2)
            if deep > 1:
                self.fits(deep <= 10, ("opt", "yes", inner, A))
        self.fits(False, chain(2000, A))

    def fits(self, told, body):
        families = (("f", table(KIND, (A,)), "kind", (body,)),)
        if told:
            self.assertEqual(Program(DESK, families).families, families)
        else:
            self.bad(0, families)

    def test_as_many_parts_as_may_be(self):
        self.fits(True, ptr(wide(59)))
        self.fits(False, wide(61))
        self.fits(True, pair(wide(29), ptr(ptr(wide(27)))))
        self.fits(True, call("f", less(1, plus(2, 3), wide(53), A)))
        self.fits(False, call("f", less(1, plus(2, 3), wide(53), ptr(A))))
        self.fits(True, ptr(("opt", "no", 3, ptr(wide(55)))))
        self.fits(False, ptr(("opt", "no", 3, ptr(wide(57)))))

    def test_one_thing_otherwise_at_any_place(self):
        right = (family("f", TWO, "kind", ((A, B), pair(call("f", B, A), less(1, call("g", INT), A, B)))),
                 family("g", KIND, "number", ((A,), plus(2, call("g", A)))))
        Program(DESK, right)
        many = {"families": 0, 0: 0, 1: 0, 2: 0, None: 0}
        for thing in other_things(right, [None, True, 1, "no", "f", "kind", A, C, new(0), [], (), INT,
                                          call("f", A, B)]):
            if type(thing) is not tuple:
                told = "families"
            else:
                told = self.first_wrong(thing)
            many[told] += 1
            if told is None:
                self.assertEqual(Program(DESK, thing).families, thing)
            else:
                self.bad(told, thing)
        self.assertGreater(min(many[told] for told in ("families", 0, 1, None)), 5)

    def first_wrong(self, families):
        """The number of the first family that is wrong, by calls within calls."""
        for k, each in enumerate(families):
            if not (type(each) is tuple and len(each) == 4 and type(each[0]) is str and each[0].isalpha()
                    and type(each[1]) is Table and type(each[2]) is str
                    and each[2] in ("kind", "number", "flag", "size")
                    and type(each[3]) is tuple and len(each[3]) == len(each[1].rows)
                    and each[0] not in [other[0] for other in families[:k]]):
                return k
        known = {each[0]: (each[1].sorts, each[2]) for each in families}

        def fits(sort, term, unknowns):
            if type(term) is not tuple:
                return type(term) is int and sort == "number" or sort not in ("kind", "number") and (
                    type(term) is str and term in dict(DESK.lists)[sort])
            if len(term) == 2 and term[0] == "?":
                return type(term[1]) is int and sort == "kind" and term[1] in unknowns
            if len(term) == 3 and type(term[0]) is str and term[0] == "!":
                told = type(term[1]) is str and known.get(term[1], ((), None))
                return bool(told) and told[1] == sort and type(term[2]) is tuple and len(term[2]) == len(told[0]) and (
                    all(fits(*pair, unknowns) for pair in zip(told[0], term[2])))
            if not term or type(term[0]) is not str:
                return False
            sorts = {"+": ("number",) * 2, "<": ("number", "number", sort, sort)}.get(term[0])
            if term[0] == "+" and sort != "number":
                return False
            if sorts is None and sort == "kind":
                sorts = dict(DESK.heads).get(term[0])
            return sorts is not None and len(sorts) == len(term) - 1 and (
                all(fits(*pair, unknowns) for pair in zip(sorts, term[1:])))

        for k, (_, one, sort, bodies) in enumerate(families):
            for row, body in zip(one.rows, bodies):
                if not fits(sort, body, [thing[1] for thing in row[1]]):
                    return k
        return None


class WorthTest(unittest.TestCase):
    def told(self, one, name, use, came_to, facts=(), most=2000):
        self.assertEqual(shallow(worth, one, name, use, facts, most), came_to)
        self.assertIs(type(worth(one, name, use, facts, most)), type(came_to))

    def test_ordinary(self):
        for name, use, came_to in [
            ("count", (INT,), 0), ("count", (chain(7, new(3)),), 7), ("count", (chain(2, pair(ptr(INT), INT)),), 2),
            ("build", (0,), INT), ("build", (-5,), INT), ("build", (4,), chain(4, INT)),
            ("fib", (0,), 0), ("fib", (1,), 1), ("fib", (30,), 832040), ("power", (2, 10), 1024),
            ("power", (-3, 3), -27), ("power", (5, 0), 1), ("power", (0, 0), 1), ("down", (9,), 0),
            ("wordy", ("yes", INT), "small"), ("wordy", ("no", ptr(INT)), "small"), ("wordy", ("no", INT), "large"),
        ]:
            self.told(ALL, name, use, came_to)

    def test_what_a_body_is_filled_by(self):
        one = program(family("f", ("kind", "number", "flag"), "kind",
                             ((tri(B, A, B), ("?", 7), ("?", 9)), ("opt", ("?", 9), minus(("?", 7), 10), pair(A, B)))))
        self.told(one, "f", (tri(new(4), INT, new(4)), 3, "no"), ("opt", "no", -7, pair(INT, new(4))))

    def test_by_facts(self):
        one = program(family("f", KIND, "number", ((A,), 1), ((A,), claim("even", 0), 2),
                             ((ptr(A),), plus(10, call("f", A)))))
        self.told(one, "f", (INT,), 1)
        self.told(one, "f", (INT,), 2, (("odd", INT), ("even", INT)))
        self.told(one, "f", (chain(3, INT),), 32, (("even", INT),))
        self.told(one, "f", (chain(3, INT),), 31, (("even", ptr(INT)),))

    def test_a_less(self):
        for one, other, told in [(1, 2, 3), (2, 2, 4), (3, 2, 4), (-1, 0, 3), (10 ** 19, 10 ** 19 + 1, 3)]:
            families = program(family("f", NUMBER, "number", ((A,), less(A, other, 3, 4))))
            self.told(families, "f", (one,), told)
        # Just the one that counts is reckoned.
        one = program(family("f", NUMBER, "number", ((A,), less(A, 1, 7, call("g", A))),
                             ((5,), less(call("f", 0), call("f", -1), call("g", 0), 8))), family("g", NUMBER, "number"))
        self.told(one, "f", (0,), 7)
        self.told(one, "f", (5,), 8)
        with self.assertRaises(Unmet):
            worth(one, "f", (1,), (), 2000)

    def test_in_order(self):
        """From the first on: of a call, a sum, a kind; of LESS the first two, then one of the others."""
        spots = family("g", NUMBER, "number", ((A,), A))
        for body, told in [
            (plus(call("g", 1), call("g", 2)), [1, 2]), (minus(call("g", 2), call("g", 1)), [2, 1]),
            (times(call("g", 0), plus(call("g", 1), call("g", 0))), [0, 1]),
            (call("g", plus(call("g", 3), call("g", 4))), [3, 4, 7]),
            (less(call("g", 1), call("g", 2), call("g", 3), call("g", 4)), [1, 2, 3]),
            (less(call("g", 2), call("g", 2), call("g", 3), call("g", 4)), [2, 4]),
            (call("h", call("g", 5), call("g", 6)), [5, 6, "h", 11]),
        ]:
            one = program(family("f", NUMBER, "number", ((A,), body)), spots,
                          family("h", ("number", "number"), "number", ((A, B), call("g", plus(A, B)))))
            asked = [("f", (9,))] + [("g", (n,)) if n != "h" else ("h", (5, 6)) for n in told]
            self.assertEqual(uses(one, "f", (9,), (), 2000), asked)
        one = program(family("f", KIND, "kind", ((A,), tri(call("f", INT), pair(call("f", ptr(INT)), INT),
                                                           call("f", INT))),
                             ((INT,), INT), ((ptr(INT),), INT)))
        self.assertEqual(uses(one, "f", (new(0),), (), 2000), [("f", (new(0),)), ("f", (INT,)), ("f", (ptr(INT),))])

    def test_each_use_is_reckoned_once(self):
        self.assertEqual(len(uses(ALL, "fib", (30,), (), 31)), 31)
        self.assertEqual(uses(ALL, "fib", (4,), (), 5), [("fib", (n,)) for n in (4, 3, 2, 1, 0)])
        with self.assertRaises(TooMany) as told:
            worth(ALL, "fib", (30,), (), 30)
        self.assertEqual(told.exception.most, 30)

    def test_lists_are_new(self):
        told = uses(ALL, "fib", (4,), (), 5)
        told.clear()
        self.assertEqual(len(uses(ALL, "fib", (4,), (), 5)), 5)

    def raised(self, error, *told, calls=(worth, uses, record)):
        for each in calls:
            with self.assertRaises(error) as raised:
                shallow(each, *told)
            self.assertIs(type(raised.exception), error)
        return vars(raised.exception)

    def test_errors_in_their_order(self):
        for name in STRANGE + ["fibs", "f", ("fib",)]:
            self.raised(NoFamily, ALL, name, (4,), (), 5)
            self.raised(NoFamily, ALL, name, None, None, None)
            with self.assertRaises(NoFamily):
                is_record(ALL, name, None, None, ())
        for use in STRANGE + [(A,), (INT,), (3, 3), [3], (True,), ()]:
            if use != (0,):
                self.raised(NoUse, ALL, "fib", use, (), 5)
                self.raised(NoUse, ALL, "fib", use, None, None)
                with self.assertRaises(NoUse):
                    is_record(ALL, "fib", use, None, ())
        for facts in STRANGE + [(("even", A),), (("small", INT),), [("even", INT)], (("even", INT),) * 201]:
            if facts != ():
                self.raised(NoFacts, ALL, "fib", (4,), facts, 5)
                self.raised(NoFacts, ALL, "fib", (4,), facts, None)
                with self.assertRaises(NoFacts):
                    is_record(ALL, "fib", (4,), facts, ())
        for most in STRANGE + [2001, 0, -1, True, "5", (5,)]:
            if type(most) is not int or not 1 <= most <= 2000:
                self.raised(NoMany, ALL, "fib", (4,), (), most)
                self.raised(NoMany, ALL, "fib", (-1,), (), most)
        self.told(ALL, "count", (INT,), 0, most=1)
        self.told(ALL, "count", (INT,), 0, most=2000)

    def test_many_uses(self):
        self.assertEqual(shallow(worth, ALL, "down", (1999,), (), 2000), 0)
        self.assertEqual(self.raised(TooMany, ALL, "down", (2000,), (), 2000), {"most": 2000})
        self.assertEqual(shallow(worth, ALL, "down", (4,), (), 5), 0)
        self.assertEqual(self.raised(TooMany, ALL, "down", (4,), (), 4), {"most": 4})
        self.assertEqual(self.raised(TooMany, ALL, "down", (1,), (), 1), {"most": 1})
        self.assertEqual(self.raised(TooMany, ALL, "down", (-1,), (), 2000), {"most": 2000})

    def test_needs_itself(self):
        one = program(family("f", NUMBER, "number", ((A,), call("g", plus(A, 1)))),
                      family("g", NUMBER, "number", ((A,), less(A, 5, call("f", A), call("f", 3)))))
        self.assertEqual(self.raised(NeedsItself, one, "f", (3,), (), 2000), {"family": "f", "use": (3,)})
        self.assertEqual(self.raised(NeedsItself, one, "f", (0,), (), 2000), {"family": "f", "use": (3,)})
        self.assertEqual(self.raised(NeedsItself, one, "g", (9,), (), 2000), {"family": "f", "use": (3,)})
        # A use that is not new is no more than so many.
        self.assertEqual(self.raised(NeedsItself, one, "f", (3,), (), 4), {"family": "f", "use": (3,)})
        self.assertEqual(self.raised(TooMany, one, "f", (3,), (), 3), {"most": 3})
        one = program(family("f", KIND, "kind", ((A,), call("f", A))))
        self.assertEqual(self.raised(NeedsItself, one, "f", (chain(199, INT),), (), 1),
                         {"family": "f", "use": (chain(199, INT),)})
        # One that has been reckoned is asked again without harm; and a use of another family is another one.
        one = program(family("f", KIND, "number", ((A,), plus(call("g", A), call("g", A)))),
                      family("g", KIND, "number", ((A,), 4)))
        self.told(one, "f", (INT,), 8, most=2)

    def test_choices(self):
        one = program(family("f", TWO, "number", ((INT, A), 1), ((A, INT), 2), ((ptr(A), ptr(B)), call("f", A, B))))
        self.assertEqual(self.raised(Unclear, one, "f", (INT, INT), (), 5), {"family": "f", "use": (INT, INT)})
        self.assertEqual(self.raised(Unmet, one, "f", (new(0), new(0)), (), 5),
                         {"family": "f", "use": (new(0), new(0))})
        self.assertEqual(self.raised(Unclear, one, "f", (ptr(INT), ptr(INT)), (), 2),
                         {"family": "f", "use": (INT, INT)})
        self.assertEqual(self.raised(Unmet, one, "f", (ptr(new(0)), ptr(new(1))), (), 2),
                         {"family": "f", "use": (new(0), new(1))})
        # Of a use that is new TooMany comes first.
        self.assertEqual(self.raised(TooMany, one, "f", (ptr(INT), ptr(INT)), (), 1), {"most": 1})
        self.assertEqual(self.raised(TooMany, one, "f", (ptr(new(0)), ptr(new(1))), (), 1), {"most": 1})

    def test_the_first_of_several_errors(self):
        great = call("great", INT)
        families = [family("great", KIND, "number", ((A,), call("power", 10, 1000))), POWER,
                    family("round", KIND, "number", ((A,), call("round", A))), family("none", KIND, "number")]
        errors = {"great": TooGreat, "round": NeedsItself, "none": Unmet}
        self.assertEqual(great[1], "great")
        for one in errors:
            for other in errors:
                if one != other:
                    body = plus(call(one, INT), call(other, INT))
                    self.raised(errors[one], program(family("f", KIND, "number", ((A,), body)), *families), "f", (INT,),
                                (), 2000)
                    body = call("g", call(one, INT), call(other, INT))
                    told = program(family("f", KIND, "number", ((A,), body)), family("g", ("number",) * 2, "number"),
                                   *families)
                    self.raised(errors[one], told, "f", (INT,), (), 2000)

    def test_great_numbers(self):
        for body, told in [(call("power", 10, 999), 10 ** 999),
                           (minus(times(10, call("power", 10, 998)), 1), 10 ** 999 - 1),
                           (plus(call("nines", 0), 0), 10 ** 1000 - 1), (minus(0, call("nines", 0)), 1 - 10 ** 1000)]:
            one = self.great(body)
            self.told(one, "f", (0,), told)
        for body in [call("power", 10, 1000), plus(call("nines", 0), 1), minus(-1, call("nines", 0)),
                     times(-10, call("power", 10, 999)), times(call("nines", 0), call("nines", 0)),
                     # It is too great as soon as it is come to.
                     minus(plus(call("nines", 0), 1), 2), less(0, plus(call("nines", 0), 1), 3, 4),
                     times(0, plus(call("nines", 0), 1))]:
            self.raised(TooGreat, self.great(body), "f", (0,), (), 2000)
        self.told(self.great(less(0, 1, 5, plus(call("nines", 0), 1))), "f", (0,), 5)

    def great(self, body):
        # Nine times 10 to the 999th, added to one less than 10 to the 999th, is the greatest of 1000 digits.
        nines = family("nines", NUMBER, "number",
                       ((A,), plus(times(9, call("power", 10, 999)), minus(call("power", 10, 999), 1))))
        return program(family("f", NUMBER, "number", ((A,), body)), nines, POWER)

    def test_great_kinds(self):
        one = program(family("f", KIND, "kind", ((A,), ptr(A))), family("g", TWO, "kind", ((A, B), pair(A, B))),
                      family("h", KIND, "kind", ((A,), A), ((ptr(A),), A)), BUILD)
        self.told(one, "f", (chain(198, INT),), chain(199, INT))
        self.raised(TooGreat, one, "f", (chain(199, INT),), (), 2000)
        self.told(one, "f", (ptr(ptr(wide(1997))),), ptr(ptr(ptr(wide(1997)))))
        self.raised(TooGreat, one, "f", (ptr(wide(1999)),), (), 2000)
        self.told(one, "g", (wide(999), ptr(wide(999))), pair(wide(999), ptr(wide(999))))
        self.raised(TooGreat, one, "g", (wide(1001), wide(999)), (), 2000)
        self.raised(TooGreat, one, "g", (INT, chain(199, INT)), (), 2000)
        self.told(one, "build", (199,), chain(199, INT))
        self.raised(TooGreat, one, "build", (200,), (), 2000)
        # What patterns match and a body hands on is as great as it is.
        self.told(one, "h", (chain(220, INT),), chain(219, INT))
        self.told(one, "h", (pair(wide(1999), wide(1999)),), pair(wide(1999), wide(1999)))
        # A kind within a kind is too great, too, when it is made.
        one = program(family("f", KIND, "number", ((A,), call("g", ptr(A)))), family("g", KIND, "number", ((A,), 3)))
        self.told(one, "f", (chain(198, INT),), 3)
        self.raised(TooGreat, one, "f", (chain(199, INT),), (), 1)
        self.raised(TooMany, one, "f", (chain(198, INT),), (), 1)

    def test_sharing_does_no_harm(self):
        one = program(family("f", KIND, "kind", ((A,), A), ((ptr(A),), pair(call("f", A), call("f", A)))))
        self.assertEqual(len(uses(one, "f", (chain(9, INT),), (), 10)), 10)
        self.raised(TooGreat, one, "f", (chain(10, INT),), (), 2000)
        self.raised(TooGreat, one, "f", (chain(150, INT),), (), 2000)

    def test_arguments_stay(self):
        facts = (("odd", INT), ("even", INT))
        use = (chain(3, INT),)
        worth(ALL, "count", use, facts, 100)
        self.assertEqual((use, facts), ((chain(3, INT),), (("odd", INT), ("even", INT))))

    def test_random(self):
        chance = random.Random(901)
        seen = {}
        for _ in range(500):
            one = some_program(chance, 3, chance.randrange(2, 5), calls=chance.choice([0.1, 0.3, 0.5]))
            for _ in range(3):
                name, of, _, _ = chance.choice(one.families)
                use = some_use(chance, of)
                facts, most = some_facts(chance, use), chance.choice([1, 2, 3, 5, 10, 50])
                slow, stop = slow_reckoned(one, name, use, facts, most)
                seen[stop and stop[0]] = seen.get(stop and stop[0], 0) + 1
                if stop is None:
                    self.told(one, name, use, slow.worths[name, use], facts, most)
                    self.assertEqual(uses(one, name, use, facts, most), slow.asked)
                    continue
                for each in (worth, uses, record):
                    with self.assertRaises(KindError) as told:
                        shallow(each, one, name, use, facts, most)
                    self.assertEqual((type(told.exception).__name__, *vars(told.exception).values()), stop)
        self.assertGreater(min(seen.values()), 1)
        self.assertEqual(set(seen), {None, "Unmet", "Unclear", "NeedsItself", "TooMany", "TooGreat"})


class RecordTest(unittest.TestCase):
    def told(self, one, name, use, facts=(), most=2000):
        """A record of just the uses that are asked."""
        told = shallow(record, one, name, use, facts, most)
        self.assertIs(type(told), tuple)
        self.assertEqual(record(one, name, use, facts, most), told)
        self.assertEqual(told[-1], (name, use, worth(one, name, use, facts, most)))
        self.assertEqual(sorted(map(repr, [each[:2] for each in told])),
                         sorted(map(repr, uses(one, name, use, facts, most))))
        for each in told[-5:]:
            self.assertEqual(each[2], worth(one, each[0], each[1], facts, most))
        self.judged(True, one, name, use, told, facts)
        return told

    def judged(self, flag, one, name, use, thing, facts=()):
        self.assertIs(shallow(is_record, one, name, use, facts, thing), flag, thing)

    def test_ordinary(self):
        self.assertEqual(self.told(ALL, "count", (INT,)), (("count", (INT,), 0),))
        self.assertEqual(self.told(ALL, "count", (ptr(INT),)), (("count", (INT,), 0), ("count", (ptr(INT),), 1)))
        for name, use in [("fib", (9,)), ("build", (5,)), ("power", (2, 4)), ("wordy", ("no", ptr(INT)))]:
            self.told(ALL, name, use)

    def test_other_orders(self):
        one = program(family("f", KIND, "number", ((A,), plus(call("g", A), call("h", A)))),
                      family("g", KIND, "number", ((A,), 1)), family("h", KIND, "number", ((A,), call("k", A))),
                      family("k", KIND, "number", ((A,), 2)))
        f, g, h, k = [(name, (INT,), n) for name, n in [("f", 3), ("g", 1), ("h", 2), ("k", 2)]]
        for thing, flag in [
            ((g, k, h, f), True), ((k, g, h, f), True), ((k, h, g, f), True), ((h, k, g, f), False),
            ((g, h, k, f), False), ((g, k, f, h), False), ((g, k, h), False), ((k, h, f), False), ((g, h, f), False),
            ((g, k, h, f, f), False), ((g, g, k, h, f), False), ((f,), False), ((), False), ([g, k, h, f], False),
            ((g, k, h, list(f)), False), ((g, k, h, f[:2]), False), ((g, k, h, f + (3,)), False),
            ((g, k, h, ("f", (INT,), 4)), False), ((g, k, ("h", (INT,), 3), ("f", (INT,), 4)), False),
            ((g, ("k", (INT,), 3), ("h", (INT,), 3), ("f", (INT,), 4)), False),
            ((g, k, h, ("f", (ptr(INT),), 3)), False), ((g, k, h, ("h", (INT,), 2)), False),
            ((g, k, h, ("f", (INT,), True)), False), ((("g", (INT,), True), k, h, f), False),
            ((("g", [INT], 1), k, h, f), False), ((("g", (INT,), 1.0), k, h, f), False),
        ]:
            self.judged(flag, one, "f", (INT,), thing)
        # Others that are right may stand in it, wherever, but not behind; others that are wrong may not.
        more, wrong = ("g", (ptr(INT),), 1), ("g", (ptr(INT),), 2)
        for at in range(5):
            thing = (g, k, h, f)[:at] + (more,) + (g, k, h, f)[at:]
            self.judged(at < 4, one, "f", (INT,), thing)
            self.judged(False, one, "f", (INT,), tuple(wrong if each == more else each for each in thing))
        far = (("k", (new(5),), 2), ("h", (new(5),), 2))
        self.judged(True, one, "f", (INT,), far + (g, k, h, f))
        self.judged(True, one, "f", (INT,), (g, k, far[0], h, far[1], f))
        self.judged(False, one, "f", (INT,), far[::-1] + (g, k, h, f))
        self.judged(False, one, "f", (INT,), far[1:] + (g, k, h, f))

    def test_words_and_kinds(self):
        self.judged(True, ALL, "wordy", ("yes", INT), (("wordy", ("yes", INT), "small"),))
        self.judged(False, ALL, "wordy", ("yes", INT), (("wordy", ("yes", INT), "middle"),))
        self.judged(False, ALL, "wordy", ("yes", INT), (("wordy", ("yes", INT), "yes"),))
        self.judged(True, ALL, "build", (0,), (("build", (0,), INT),))
        self.judged(False, ALL, "build", (0,), (("build", (0,), ptr(INT)),))
        self.judged(False, ALL, "build", (0,), (("build", (0,), A),))
        self.judged(False, ALL, "build", (0,), (("build", (False,), INT),))

    def test_what_comes_to_nothing(self):
        one = program(family("f", TWO, "kind", ((INT, A), INT), ((A, INT), INT), ((ptr(A), ptr(B)), call("f", A, B))),
                      family("g", KIND, "kind", ((A,), call("g", A))), family("h", KIND, "kind", ((A,), ptr(A))))
        for name, use in [("f", (INT, INT)), ("f", (new(0), new(0))), ("g", (INT,)), ("h", (chain(199, INT),))]:
            with self.assertRaises(KindError):
                record(one, name, use, (), 2000)
            for told in (INT, ptr(INT), chain(200, INT)):
                self.judged(False, one, name, use, ((name, use, told),))
                self.judged(False, one, name, use, ((name, use, told), (name, use, told)))
        # An endless way has no record, as each use stands behind another one.
        one = program(family("f", NUMBER, "number", ((A,), call("f", plus(A, 1)))))
        self.judged(False, one, "f", (0,), tuple(("f", (n,), 7) for n in range(50)[::-1]))

    def test_of_facts(self):
        one = program(family("f", KIND, "number", ((A,), 1), ((A,), claim("even", 0), 2)))
        self.told(one, "f", (INT,), (("even", INT),))
        self.judged(True, one, "f", (INT,), (("f", (INT,), 2),), (("even", INT),))
        self.judged(False, one, "f", (INT,), (("f", (INT,), 1),), (("even", INT),))
        self.judged(False, one, "f", (INT,), (("f", (INT,), 2),))

    def test_strange_things(self):
        right = record(ALL, "count", (ptr(INT),), (), 5)
        for thing in STRANGE:
            self.judged(False, ALL, "count", (ptr(INT),), thing)
            self.judged(False, ALL, "count", (ptr(INT),), (thing,))
            self.judged(False, ALL, "count", (ptr(INT),), (thing,) + right)
            for k in range(3):
                for told in [(right[0][:k] + (thing,) + right[0][k + 1:], right[1]),
                             (right[0], right[1][:k] + (thing,) + right[1][k + 1:])]:
                    self.judged(repr(told) == repr(right), ALL, "count", (ptr(INT),), told)

    def test_one_thing_otherwise_at_any_place(self):
        right = record(ALL, "count", (chain(3, INT),), (), 5)
        for thing in other_things(right, [None, True, False, 5, "count", "fib", INT, A, [], (), right[0]]):
            if repr(thing) != repr(right):
                self.judged(False, ALL, "count", (chain(3, INT),), thing)

    def test_deep_and_long(self):
        told = self.told(ALL, "down", (1999,))
        self.assertEqual(len(told), 2000)
        self.judged(True, ALL, "down", (1999,), tuple(("down", (n,), 0) for n in range(2000)))
        self.judged(True, ALL, "down", (2999,), tuple(("down", (n,), 0) for n in range(3000)))
        self.told(ALL, "build", (199,))
        self.told(ALL, "count", (chain(199, INT),))

    def test_the_fact_of_records(self):
        """Whatever stands in it, a record tells what the use comes to."""
        chance = random.Random(903)
        seen = [0, 0]
        for _ in range(200):
            one = some_program(chance, 3, 3, calls=0.5)
            name, of, _, _ = chance.choice(one.families)
            use = some_use(chance, of)
            facts = some_facts(chance, use)
            slow, stop = slow_reckoned(one, name, use, facts, 40)
            if stop is not None:
                continue
            told = list(self.told(one, name, use, facts))
            for _ in range(5):
                thing = told[:-1]
                chance.shuffle(thing)
                thing = tuple(thing + told[-1:])
                flag = self.slow(slow, thing)
                seen[flag] += 1
                self.judged(flag, one, name, use, thing, facts)
            if len(told) > 1:
                seen[0] += 1
                self.judged(False, one, name, use, tuple(told[1:]), facts)
        self.assertGreater(min(seen), 10)

    def slow(self, slow, thing):
        """Whether each use stands behind all those that its body asks for."""
        for k, (name, use, _) in enumerate(thing):
            again = type(slow)(program(), slow.facts, 2000)
            again.families = slow.families
            again.worths = {each[:2]: each[2] for each in thing[:k]}
            again.worth(name, use)
            if len(again.asked) > 1:
                return False
        return True


if __name__ == "__main__":
    unittest.main()
