"""[10.1] to [10.3]: rooted programs, falls, and whether every use is finite."""

import random
import unittest

from nearestkinds.ends import ends, falls, is_ending
from nearestkinds.errors import NoStanding, NotRooted
from nearestkinds.programs import Program
from nearestkinds.roots import is_rooted
from nearestkinds.tables import Table
from nearestkinds.things import Book
from tests import slow_programs
from tests.samples import STRANGE, shallow
from tests.slow import A, B, C, INT, KIND, claim, other_things, pair, ptr, tri
from tests.slow_programs import call, less
from tests.slow_roots import (GARDEN, family, garden, root_of, slow_ending, slow_falls, slow_following, slow_leads,
                              slow_standings, some_garden, standing_use)

D = ("?", 3)
OF_FLAG = ("flag", "kind")

# Down from pairs to what is in them, and from pointers to what they lead to.
DOWN = family("down", KIND, ((ptr(A),), call("down", A)), ((pair(A, B),), tri(call("down", A), call("down", B), INT)))
# Up without end.
UP = family("up", KIND, ((A,), call("up", ptr(A))))
# Two steps up, then two at once down.
TWICE = family("twice", OF_FLAG, (("yes", ptr(A)), call("twice", "no", ptr(ptr(A)))), (("no", ptr(A)), call("off", A)))
OFF = family("off", KIND, ((ptr(A),), call("stop", A)))
STOP = family("stop", KIND, ((INT,), INT))


class RootedTest(unittest.TestCase):
    def told(self, flag, one):
        self.assertIs(is_rooted(one), flag)
        for call_it in (lambda: ends(one), lambda: falls(one, None), lambda: is_ending(one, None)):
            if not flag:
                with self.assertRaises(NotRooted):
                    shallow(call_it)
        if flag:
            self.assertIs(is_ending(one, ends(one)), True)
            with self.assertRaises(NoStanding):
                falls(one, None)

    def test_rooted(self):
        self.told(True, garden())
        for families in [(DOWN,), (UP,), (TWICE, OFF, STOP), (DOWN, UP, TWICE, OFF, STOP)]:
            self.told(True, garden(*families))
        for one in [
            family("f", KIND), family("f", KIND, ((A,), A)), family("f", KIND, ((tri(C, A, B),), tri(A, A, ptr(B)))),
            family("f", ("flag", "kind", "size"), ((A, B, C), call("f", A, ptr(ptr(B)), C)),
                   (("yes", pair(A, B), C), ptr(call("f", "no", pair(B, B), "small")))),
            family("f", KIND, ((ptr(A),), pair(call("f", A), call("f", INT)))),
            family("f", ("kind", "flag", "flag"), ((A, B, C), call("f", A, C, B))),
        ]:
            self.told(True, garden(one))

    def test_of_heads(self):
        for heads, flag in [((), True), ((("int", ()),), True), ((("two", ("kind", "kind")),), True),
                            ((("array", ("kind", "number")),), False), ((("mode", ("flag",)),), False),
                            ((("int", ()), ("one", ("number",))), False)]:
            book = Book(GARDEN.lists, heads, ())
            self.told(flag, Program(book, ()))
            self.told(flag, Program(book, (("f", Table(book, KIND, (("a", (A,), None),)), "kind", (A,)),)))

    def test_of_places(self):
        for sorts, flag in [(KIND, True), (("flag", "size", "kind", "flag"), True), (("kind", "kind"), False),
                            (("flag",), False),
                            (("kind", "number"), False), (("number",), False), (("kind", "flag", "kind"), False)]:
            self.told(flag, garden(family("f", sorts)))
            self.told(flag, garden(DOWN, family("f", sorts)))

    def test_of_worths(self):
        for sort, flag in [("kind", True), ("flag", False), ("number", False)]:
            self.told(flag, garden(DOWN, ("f", Table(GARDEN, KIND, ()), sort, ())))

    def test_of_patterns(self):
        for sorts, patterns, flag in [
            (KIND, (ptr(A),), True), (KIND, (pair(A, B),), True), (KIND, (pair(A, A),), False),
            (KIND, (ptr(ptr(A)),), False),
            (KIND, (ptr(INT),), False), (KIND, (INT,), True), (KIND, (tri(A, B, A),), False),
            (KIND, (pair(A, INT),), False),
            (("flag", "flag", "kind"), (A, B, C), True), (("flag", "flag", "kind"), (A, A, C), False),
            (("flag", "flag", "kind"), ("yes", A, C), True), (("flag", "flag", "kind"), ("yes", "yes", ptr(C)), True),
            (("flag", "kind", "flag"), (C, ptr(A), C), False),
        ]:
            self.told(flag, garden(family("f", sorts, (patterns, INT))))
            self.told(flag, garden(DOWN, family("f", sorts, (patterns, INT))))

    def test_of_demands(self):
        one = Table(GARDEN, KIND, (("a", (A,), claim("even", 0)),))
        self.told(False, Program(GARDEN, (("f", one, "kind", (A,)),)))

    def test_of_tables_that_are_not_clear(self):
        rows = [(("yes", A), INT), ((A, ptr(B)), INT), (("yes", ptr(B)), INT)]
        self.told(True, garden(family("f", OF_FLAG, *rows)))
        self.told(False, garden(family("f", OF_FLAG, *rows[:2])))
        self.told(False, garden(DOWN, family("f", OF_FLAG, *rows[:2])))

    def test_of_bodies(self):
        for body, flag in [
            (A, True), (tri(call("f", A), call("f", B), INT), True), (ptr(ptr(call("f", ptr(B)))), True),
            (less(1, 2, A, B), False), (ptr(less(1, 2, A, B)), False), (call("f", less(1, 2, A, B)), False),
            (call("f", call("f", A)), False), (call("f", ptr(call("f", A))), False),
            (pair(A, call("f", call("f", A))), False),
            (less(1, 2, call("f", A), B), False), (call("f", pair(A, pair(B, call("f", A)))), False),
        ]:
            self.told(flag, garden(family("f", KIND, ((pair(A, B),), body))))
        self.told(False, garden(family("f", OF_FLAG, ((A, B), call("f", less(1, 2, "yes", A), B)))))
        self.told(True, garden(family("f", OF_FLAG, ((A, B), call("f", A, B)))))


class FallsTest(unittest.TestCase):
    def told(self, one, standing, came_to):
        self.assertEqual(shallow(falls, one, standing), came_to)

    def test_ordinary(self):
        one = garden(DOWN)
        for root, parts in [(None, []), ("int", []), ("ptr", [0]), ("pair", [0, 1]), ("tri", [])]:
            self.told(one, ("down", (), root), [("down", (), part) for part in parts])
        self.told(garden(UP), ("up", (), None), [])
        self.told(garden(UP), ("up", (), "ptr"), [])

    def test_by_other_falls(self):
        one = garden(TWICE, OFF, STOP)
        self.told(one, ("twice", ("yes",), "ptr"), [("stop", (), 0)])
        self.told(one, ("twice", ("no",), "ptr"), [("off", (), 0)])
        self.told(one, ("twice", ("no",), "pair"), [])
        self.told(one, ("off", (), "ptr"), [("stop", (), 0)])
        self.told(one, ("stop", (), "ptr"), [])
        # Of one pointer more than is taken off there is no fall.
        one = garden(family("twice", OF_FLAG, (("yes", ptr(A)), call("twice", "no", ptr(ptr(ptr(A))))),
                            (("no", ptr(A)), call("off", A))), OFF, STOP)
        self.told(one, ("twice", ("yes",), "ptr"), [])
        self.told(one, ("twice", ("no",), "ptr"), [("off", (), 0)])

    def test_parts_and_words(self):
        one = garden(family("f", ("size", "kind", "flag"), ((A, tri(("?", 5), ("?", 6), ("?", 7)), B), pair(
            call("g", ("?", 7), B), pair(call("g", ("?", 5), "no"), call("f", A, ("?", 6), "yes")))),
            (("small", tri(("?", 5), ("?", 6), ("?", 7)), B), call("f", "large", ("?", 5), B))),
            family("g", ("kind", "flag")))
        self.told(one, ("f", ("middle", "yes"), "tri"), [("f", ("middle", "yes"), 1), ("g", ("no",), 0),
                                                         ("g", ("yes",), 2)])
        self.told(one, ("f", ("large", "no"), "tri"), [("f", ("large", "yes"), 1), ("g", ("no",), 0),
                                                       ("g", ("no",), 2)])
        self.told(one, ("f", ("small", "no"), "tri"), [("f", ("large", "no"), 0)])
        self.told(one, ("f", ("small", "no"), "pair"), [])
        self.told(one, ("g", ("no",), "tri"), [])

    def test_the_whole_thing_handed_on(self):
        """What is at the eye is handed on as it is, beside others, and within others."""
        one = garden(family("f", KIND, ((A,), call("g", A))), family("g", KIND, ((ptr(A),), call("h", A))),
                     family("h", KIND))
        self.told(one, ("f", (), "ptr"), [("h", (), 0)])
        self.told(one, ("f", (), "pair"), [])
        self.told(one, ("f", (), None), [])
        one = garden(family("f", KIND, ((A,), call("g", pair(INT, A)))),
                     family("g", KIND, ((pair(A, B),), call("h", B))),
                     family("h", KIND, ((tri(A, B, C),), call("h", C))))
        self.told(one, ("f", (), "tri"), [("h", (), 2)])
        self.told(one, ("h", (), "tri"), [("h", (), 2)])
        self.told(one, ("f", (), "ptr"), [])

    def test_none_between(self):
        """Behind a fall nothing is gone on to, though the next use would fall, too."""
        one = garden(family("f", KIND, ((ptr(A),), call("g", A)), ((A,), call("h", A))),
                     family("g", KIND, ((A,), call("f", A))),
                     family("h", KIND))
        self.told(one, ("f", (), "ptr"), [("g", (), 0)])
        self.told(one, ("g", (), "ptr"), [("g", (), 0)])
        self.told(one, ("f", (), "pair"), [])
        self.told(one, ("f", (), None), [])

    def test_many_times_over(self):
        """Bits that are counted through by families that fall by one another's falls."""
        rows = []
        for bits in [("no", "no"), ("no", "yes"), ("yes", "no")]:
            after = {("no", "no"): ("no", "yes"), ("no", "yes"): ("yes", "no"), ("yes", "no"): ("yes", "yes")}[bits]
            rows.append(((*bits, ptr(A)), call("f", *after, ptr(ptr(A)))))
        rows.append((("yes", "yes", ptr(A)), call("g", "no", A)))
        back = [(("no", ptr(A)), call("g", "yes", A)), (("yes", ptr(A)), call("end", A))]
        one = garden(family("f", ("flag", "flag", "kind"), *rows), family("g", OF_FLAG, *back), family("end", KIND))
        slow = slow_falls(one)
        for standing in slow:
            self.told(one, standing, sorted(slow[standing]))
        self.told(one, ("f", ("yes", "yes"), "ptr"), [("g", ("no",), 0)])
        self.told(one, ("f", ("yes", "no"), "ptr"), [("g", ("yes",), 0)])
        self.told(one, ("f", ("no", "yes"), "ptr"), [("end", (), 0)])
        self.told(one, ("f", ("no", "no"), "ptr"), [])

    def test_they_go_round(self):
        """Of what goes on for ever there are falls, too, where it may do something else."""
        one = garden(family("f", KIND, ((ptr(A),), pair(call("f", ptr(ptr(A))), call("g", A))),
                            ((pair(A, B),), call("f", ptr(B)))),
                     family("g", KIND, ((ptr(A),), pair(call("g", A), call("h", A)))), family("h", KIND))
        slow = slow_falls(one)
        self.told(one, ("f", (), "ptr"), [("g", (), 0), ("h", (), 0)])
        self.told(one, ("f", (), "pair"), [("g", (), 1), ("h", (), 1)])
        for standing in slow:
            self.told(one, standing, sorted(slow[standing]))

    def test_no_standings(self):
        one = garden(TWICE, DOWN, OFF, STOP)
        for thing in STRANGE + [
            ("up", (), None), ("down", ("yes",), None), ("down", (), "none"), ("down", (), "flag"), ("down", ()),
            ("down", (), None, ()), ["down", (), None], ("down", [], None), ("down", None, None), ("twice", (), None),
            ("twice", ("yes", "no"), None), ("twice", ("small",), None), ("twice", ["yes"], None),
            ("twice", "yes", None),
            ("twice", ("yes",), ("ptr",)), ("twice", ("yes",), False), ("twice", ("yes",), 0), (0, (), None),
            ("twice", (True,), None), (("twice",), ("yes",), None), ("twice", ("yes",), ptr(INT)),
            ("twice", ("yes",), "~"),
        ]:
            with self.assertRaises(NoStanding):
                shallow(falls, one, thing)
            for right in [("twice", ("yes",), "ptr"), ("down", (), None)]:
                for at in range(3):
                    other = right[:at] + (thing,) + right[at + 1:]
                    if other not in slow_standings(one):
                        with self.assertRaises(NoStanding):
                            falls(one, other)

    def test_lists_are_new(self):
        one = garden(DOWN)
        falls(one, ("down", (), "ptr")).clear()
        self.told(one, ("down", (), "ptr"), [("down", (), 0)])

    def test_random(self):
        chance = random.Random(1002)
        seen = 0
        for _ in range(150):
            one = some_garden(chance, 3, chance.choice([1, 2, 3]))
            slow = slow_falls(one)
            for standing in chance.sample(list(slow), 5):
                self.told(one, standing, sorted(slow[standing]))
                seen += len(slow[standing])
                for name, words, part in self.come_to(one, standing):
                    self.assertIn((name, words, part), slow[standing])
        self.assertGreater(seen, 50)

    def come_to(self, one, standing):
        """The falls that are come to by real uses, of at most so many parts."""
        if standing[2] is None:
            return []
        found, todo, seen = [], [standing_use(one, standing)], set()
        while todo and len(seen) < 300:
            for use in slow_following(one, todo.pop()):
                if use[2][0] == "~":
                    found.append((use[0], use[1], use[2][1]))
                elif repr(use) not in seen and len(repr(use)) < 200:
                    seen.add(repr(use))
                    todo.append(use)
        return found


class EndsTest(unittest.TestCase):
    def told(self, one, word):
        told = shallow(ends, one)
        self.assertEqual(told[0], word)
        self.assertIs(type(told), tuple)
        self.assertIs(shallow(is_ending, one, told), True)
        self.assertTrue(slow_ending(one, told))
        self.assertEqual(ends(one), told)
        return told

    def test_that_end(self):
        self.assertEqual(self.told(garden(), "ends"), ("ends", {}))
        for families in [(DOWN,), (OFF, STOP), (TWICE, OFF, STOP), (DOWN, TWICE, OFF, STOP)]:
            told = self.told(garden(*families), "ends")
            self.assertEqual(set(told[1]), set(slow_standings(garden(*families))))
        self.told(garden(family("f", KIND)), "ends")
        self.told(garden(family("f", KIND, ((A,), A))), "ends")
        self.told(garden(family("f", KIND, ((ptr(A),), call("f", A)), ((pair(A, B),), call("f", ptr(A))))), "ends")
        # Three up, but by each of four others one down.
        self.told(garden(family("f", KIND, ((ptr(A),), call("g", ptr(ptr(ptr(A)))))),
                         family("g", KIND, ((ptr(A),), call("h", A))), family("h", KIND, ((ptr(A),), call("k", A))),
                         family("k", KIND, ((ptr(A),), call("l", A))), family("l", KIND, ((ptr(A),), call("f", A)))),
                         "ends")

    def test_that_go_on(self):
        """With one row more, or one otherwise, a use goes on."""
        for families in [
            (UP,), (DOWN, UP), (family("f", KIND, ((A,), call("f", A))),),
            (family("f", KIND, ((ptr(A),), call("f", A)), ((pair(A, B),), call("f", pair(B, A)))),),
            (family("f", KIND, ((ptr(A),), call("f", ptr(A)))),), (family("f", KIND, ((A,), call("f", INT))),),
            (family("f", KIND, ((INT,), call("f", INT))),), (family("f", KIND, ((A,), pair(A, call("f", ptr(INT))))),),
            (family("f", KIND, ((A,), call("g", A))), family("g", KIND, ((A,), call("f", A)))),
            # Three up, and by four others four down, but one up again.
            (family("f", KIND, ((ptr(A),), call("g", ptr(ptr(ptr(A)))))), family("g", KIND, ((ptr(A),), call("h", A))),
             family("h", KIND, ((ptr(A),), call("k", A))), family("k", KIND, ((ptr(A),), call("l", A))),
             family("l", KIND, ((ptr(A),), call("f", ptr(ptr(A)))))),
            (TWICE, OFF, family("stop", KIND, ((ptr(A),), call("twice", "yes", ptr(ptr(A)))))),
        ]:
            told = self.told(garden(*families), "goes on")
            self.goes_on(garden(*families), told)

    def goes_on(self, one, told):
        """That the steps, gone three times, by the real ways of their falls, come to the like of the use each time."""
        _, falls_told, standing, steps = told
        use = standing_use(one, standing)
        for _ in range(3):
            use = self.gone(one, falls_told, use, steps)
            self.assertEqual((use[0], use[1], root_of(use)), standing)

    def gone(self, one, falls_told, use, steps):
        for step in steps:
            use = slow_following(one, use)[step] if type(step) is int else (
                self.gone(one, falls_told, use, falls_told[step[1]][2]))
        return use

    def test_of_a_new_kind(self):
        """A use of a new kind may go on without a fall."""
        one = garden(family("f", KIND, ((A,), call("g", ptr(A))), ((ptr(A),), INT), ((pair(A, B),), INT), ((INT,), INT),
                            ((tri(A, B, C),), INT)), family("g", KIND, ((ptr(A),), call("f", A))))
        told = self.told(one, "goes on")
        self.assertIsNone(told[2][2])
        self.goes_on(one, told)
        # The same with a row at which it ends.
        one = garden(family("f", KIND, ((A,), INT), ((ptr(A),), INT), ((pair(A, B),), INT), ((INT,), INT),
                            ((tri(A, B, C),), INT)), family("g", KIND, ((ptr(A),), call("f", A))))
        self.told(one, "ends")

    def test_by_falls_alone(self):
        """It comes round just by what it falls to, many deep."""
        inner = A
        for _ in range(6):
            inner = ptr(inner)
        one = garden(family("f", KIND, ((pair(A, B),), call("g", inner))),
                     family("g", KIND, ((ptr(A),), call("g", A)), ((pair(A, B),), call("f", pair(A, B)))))
        self.told(one, "ends")
        one = garden(family("f", KIND, ((A,), call("g", inner))),
                     family("g", KIND, ((ptr(A),), call("g", A)), ((pair(A, B),), call("f", pair(A, B)))))
        told = self.told(one, "goes on")
        self.goes_on(one, told)
        self.assertGreater(len(told[3]), 3)
        self.assertEqual(len(told[1]), 1)

    def test_not_rooted(self):
        one = slow_programs.program()
        for thing in STRANGE + [("ends", {})]:
            with self.assertRaises(NotRooted):
                shallow(is_ending, one, thing)

    def test_ranks_otherwise(self):
        for one in [garden(DOWN), garden(TWICE, OFF, STOP), garden(family("f", KIND, ((ptr(A),), call("f", INT))))]:
            _, ranks = self.told(one, "ends")
            leads = slow_leads(one)
            for standing, (rank, told) in ranks.items():
                for pair_here, flag in [
                    ((rank + 10 ** 19, told), all(standing not in leads[each] for each in leads)),
                    ([rank, told], False),
                    ((rank,), False), ((rank, told, ()), False), ((-1, told), False), ((True, told), False),
                    ((None, told), False), (("0", told), False), ((rank, list(told)), False), ((rank, None), False),
                    ((rank, told + (("down", (), 0),)), False), ((rank, told[1:]), len(told) == 0),
                    ((rank, told[::-1]), len(told) < 2), ((rank, told * 2), len(told) == 0), (rank, False),
                    (None, False),
                    ((rank, tuple(list(each) for each in told)), len(told) == 0),
                    ((rank, tuple((name, words, bool(part)) for name, words, part in told)), len(told) == 0),
                    ((rank, tuple((name, words, 1 - part) for name, words, part in told)), len(told) == 0),
                ]:
                    thing = ("ends", {**ranks, standing: pair_here})
                    self.assertIs(shallow(is_ending, one, thing), flag, thing)
                    self.assertEqual(slow_ending(one, thing), flag)
                self.assertFalse(is_ending(one, ("ends", {each: ranks[each] for each in ranks if each != standing})))
            for thing in [("ends", {**ranks, "more": (0, ())}), ("ends", {**ranks, ("f", (), "none"): (0, ())}),
                          ("ends", tuple(ranks.items())), ("ends", ranks, ()), ["ends", ranks], ("end", ranks),
                          ("ends",),
                          ("goes on", ranks), ranks, ("ends", {}), ("ends", None), (("ends",), ranks)]:
                self.assertFalse(shallow(is_ending, one, thing), thing)
            # In any order, and as great as one likes, as long as each that is led to is less.
            self.assertTrue(is_ending(one, ("ends", {each: (7 * ranks[each][0] + 3, ranks[each][1])
                                                     for each in list(ranks)[::-1]})))

    def test_ranks_exchanged(self):
        one = garden(family("f", KIND, ((ptr(A),), call("f", pair(A, A))), ((pair(A, B),), call("f", tri(A, B, B))),
                            ((tri(A, B, C),), call("f", A))))
        _, ranks = self.told(one, "ends")
        for here in ranks:
            for there in ranks:
                other = {**ranks, here: (ranks[there][0], ranks[here][1]), there: (ranks[here][0], ranks[there][1])}
                self.assertIs(is_ending(one, ("ends", other)), slow_ending(one, ("ends", other)))
                self.assertIs(is_ending(one, ("ends", {**ranks, here: ranks[there], there: ranks[here]})),
                              ranks[here] == ranks[there])
        # It leads there by others, too: just as far as right away.
        flat = {each: (0, ranks[each][1]) for each in ranks}
        self.assertFalse(is_ending(one, ("ends", flat)))
        self.assertFalse(is_ending(one, ("ends", {**ranks, ("f", (), "ptr"): (1, ranks["f", (), "ptr"][1])})))
        self.assertTrue(is_ending(one, ("ends", {**ranks, ("f", (), "ptr"): (5, ranks["f", (), "ptr"][1])})))

    def test_ranks_of_what_goes_on(self):
        one = garden(UP)
        flat = {each: (k, ()) for k, each in enumerate(slow_standings(one))}
        self.assertFalse(is_ending(one, ("ends", flat)))
        one = garden(DOWN)
        self.assertFalse(is_ending(one, ("goes on", (), ("down", (), "ptr"), (0,))))

    def test_steps_otherwise(self):
        one = garden(family("f", OF_FLAG, (("yes", A), pair(INT, call("g", pair(A, ptr(INT))))), (("no", ptr(A)), INT)),
                     family("g", KIND, ((pair(A, B),), tri(call("g", A), call("g", B), call("h", B))),
                            ((ptr(A),), call("f", "yes", A))),
                     family("h", KIND, ((ptr(A),), call("f", "yes", ptr(A)))))
        right = self.told(one, "goes on")
        self.goes_on(one, right)
        fall = (("g", (), "pair"), ("g", (), 1), (1,))
        more = (("g", (), "ptr"), ("f", ("yes",), 0), (0,))
        whole = ("goes on", (fall, more), ("f", ("yes",), "int"), (0, ("fall", 0), ("fall", 1)))
        self.assertTrue(is_ending(one, whole))
        for thing, flag in [
            (("goes on", (), ("f", ("yes",), "ptr"), (0, 2, 0)), True),
            (("goes on", (), ("f", ("yes",), "int"), (0, 2, 0)), False),
            (("goes on", (), ("f", ("yes",), None), (0, 2, 0)), False),
            (("goes on", (), ("f", ("yes",), "int"), (0, 1, 0)), True),
            (("goes on", (), ("f", ("yes",), "ptr"), (0, 2)), False),
            (("goes on", (), ("f", ("yes",), "ptr"), ()), False),
            (("goes on", (), ("f", ("yes",), "ptr"), [0, 2, 0]), False),
            (("goes on", [], ("f", ("yes",), "ptr"), (0, 2, 0)), False),
            (("goes on", (), ("f", ("yes",), "ptr"), (0, 2, False)), False),
            (("goes on", (), ("f", ("yes",), "ptr"), (0, 3, 0)), False),
            (("goes on", (), ("f", ("yes",), "ptr"), (0, 2, 1)), False),
            (("goes on", (), ("f", ("yes",), "ptr"), (0, -1, 0)), False),
            (("goes on", (), ("f", ("yes",), "ptr"), (0, 2, 0, 0, 2, 0)), True),
            (("goes on", (), ("g", (), "pair"), (2, 0, 0)), False),
            (("goes on", (), ("h", (), "ptr"), (0, 0, 2)), True),
            (("goes on", (fall,), ("f", ("yes",), "int"), (0, ("fall", 0), 0)), True),
            (("goes on", (fall,), ("f", ("yes",), "int"), (0, ("fall", 1), 0)), False),
            (("goes on", (fall,), ("f", ("yes",), "int"), (0, ("fall", -1), 0)), False),
            (("goes on", (fall,), ("f", ("yes",), "int"), (0, ("fall", False), 0)), False),
            (("goes on", (fall,), ("f", ("yes",), "int"), (0, ["fall", 0], 0)), False),
            (("goes on", (fall,), ("f", ("yes",), "int"), (0, ("fall",), 0)), False),
            (("goes on", (fall,), ("f", ("yes",), "int"), (0, ("call", 0), 0)), False),
            (("goes on", (fall,), ("f", ("yes",), "int"), (("fall", 0), 0, 0)), False),
            # A new kind alone stands at the eye of what is come to between.
            (("goes on", (), ("g", (), "pair"), (0, 0)), False), (("goes on", (), ("g", (), "ptr"), (0, 0, 1)), False),
            # Each fall told has to be right, though no step goes by it, and by earlier ones alone.
            (whole[:1] + ((more, fall),) + whole[2:], False),
            (whole[:1] + ((fall, more, more, fall),) + whole[2:], True),
            (whole[:1] + ((fall, more, (fall[0], fall[1], (0,))),) + whole[2:], False),
            (whole[:1] + ((fall, more, (fall[0], ("g", (), 0), (0,))),) + whole[2:], True),
            (whole[:1] + ((fall, more, (fall[0], fall[1], (("fall", 0),))),) + whole[2:], True),
            (whole[:1] + ((fall, more, (fall[0], fall[1], (("fall", 2),))),) + whole[2:], False),
            (whole[:1] + ((fall, more, (fall[0], fall[1], (("fall", 3),)), fall),) + whole[2:], False),
            (whole[:1] + ((fall, more, (("g", (), None), ("g", (), 0), (0,))),) + whole[2:], False),
            (whole[:1] + ((fall, more, (("f", ("yes",), None), ("g", (), 0), (0,))),) + whole[2:], False),
            (whole[:1] + ((fall, more, (("f", ("yes",), "int"), ("g", (), 0), (0, 0))),) + whole[2:], False),
            (whole[:1] + ((fall[:2] + ([1],), more),) + whole[2:], False),
            (whole[:1] + ((list(fall), more),) + whole[2:], False),
            (whole[:1] + ((fall[:2], more),) + whole[2:], False),
            (whole[:1] + ((fall[:2] + ((),), more),) + whole[2:], False),
            (whole[:1] + (((fall[0], ("g", (), True), fall[2]), more),) + whole[2:], False),
            (whole[:1] + (((fall[0], ["g", (), 1], fall[2]), more),) + whole[2:], False),
            (whole[:1] + (((fall[0], ("g", [], 1), fall[2]), more),) + whole[2:], False),
            (whole[:3], False), (whole + ((),), False), (list(whole), False), (("ends",) + whole[1:], False),
            (("goes",) + whole[1:], False), (None, False), ((), False), (("goes on",), False),
            (whole[:2] + (("f", ("no",), "int"), whole[3]), False),
            (whole[:2] + (("f", ("yes",), "none"), whole[3]), False),
            (whole[:2] + (["f", ("yes",), "int"], whole[3]), False), (whole[:2] + (None, whole[3]), False),
        ]:
            self.assertIs(shallow(is_ending, one, thing), flag, thing)
            self.assertEqual(slow_ending(one, thing), flag, thing)
        for told in (right, whole):
            for thing in other_things(told, [None, True, False, 0, 1, 2, "f", "g", "ptr", "pair", "fall", (), [],
                                             ("yes",), fall]):
                self.assertIs(is_ending(one, thing), self.slow(one, thing), thing)

    def slow(self, one, thing):
        """What slow_ending tells, but that strange things that it cannot look for are none."""
        try:
            return bool(slow_ending(one, thing))
        except (TypeError, KeyError, IndexError):
            return False

    def test_strange_things(self):
        for one in (garden(DOWN), garden(UP)):
            told = ends(one)
            for thing in STRANGE:
                self.assertIs(shallow(is_ending, one, thing), False)
                for word in ("ends", "goes on"):
                    self.assertIs(shallow(is_ending, one, (word, thing)), False)
                    self.assertIs(shallow(is_ending, one, (word, (), thing, (0,))), False)
                    self.assertIs(shallow(is_ending, one, (word, (), ("up", (), "ptr"), thing)), thing == (0,) and (
                        word == "goes on" and told[0] == word))
                    self.assertIs(shallow(is_ending, one, (word, thing, ("up", (), "ptr"), (0,))), thing == () and (
                        word == "goes on" and told[0] == word))
                    self.assertIs(shallow(is_ending, one, (word, (thing,), ("up", (), "ptr"), (0,))), False)
                    self.assertIs(shallow(is_ending, one, (word, (), ("up", (), "ptr"), (0, thing))), (
                        type(thing) is int and thing == 0 and word == "goes on" and told[0] == word))

    def test_of_a_new_kind_there_are_no_falls(self):
        one = garden(family("f", KIND, ((A,), call("f", A))))
        whole = ("f", (), None), ("f", (), 0), (0,)
        other = ("f", (), "ptr"), ("f", (), 0), (0,)
        self.assertEqual(falls(one, whole[0]), [])
        for told, flag in [((), True), ((whole,), False), ((other,), False)]:
            thing = ("goes on", told, ("f", (), None), (0,))
            self.assertIs(shallow(is_ending, one, thing), flag)
            self.assertEqual(slow_ending(one, thing), flag)
        self.assertIs(is_ending(one, ("goes on", (whole,), ("f", (), None), (("fall", 0),))), False)

    def test_long_steps(self):
        """As far round as one likes; the things that are come to may be as great as they will."""
        one = garden(UP)
        self.assertIs(shallow(is_ending, one, ("goes on", (), ("up", (), "ptr"), (0,) * 5000)), True)
        self.assertIs(shallow(is_ending, one, ("goes on", (), ("up", (), None), (0,) * 5000)), False)
        one = garden(family("f", KIND, ((A,), call("f", tri(A, A, A)))))
        self.assertIs(shallow(is_ending, one, ("goes on", (), ("f", (), "tri"), (0,) * 5000)), True)
        one = garden(family("f", KIND, ((A,), call("f", A))))
        self.assertIs(shallow(is_ending, one, ("goes on", (), ("f", (), None), (0,) * 5000)), True)
        told = tuple((("f", (), "ptr"), ("f", (), 0), (("fall", k - 1) if k else 0,)) for k in range(500))
        one = garden(family("f", KIND, ((ptr(A),), call("f", A)), ((pair(A, B),), call("f", ptr(pair(A, B))))))
        self.assertIs(shallow(is_ending, one, ("goes on", told, ("f", (), "pair"), (0, ("fall", 499)))), True)
        self.assertIs(shallow(is_ending, one, ("goes on", told, ("f", (), "pair"), (0, ("fall", 500)))), False)

    def test_dicts_are_new(self):
        one = garden(DOWN)
        ends(one)[1].clear()
        self.told(one, "ends")

    def test_the_fact_of_ends(self):
        chance = random.Random(1003)
        seen = {"ends": 0, "goes on": 0}
        for _ in range(200):
            one = some_garden(chance, 3, chance.choice([1, 2, 3]))
            leads = slow_leads(one)
            told = self.told(one, "goes on" if any(each in leads[each] for each in leads) else "ends")
            seen[told[0]] += 1
            if told[0] == "goes on":
                self.goes_on(one, told)
                continue
            for _ in range(3):
                self.finite(one, chance.choice(one.families), chance)
        self.assertGreater(min(seen.values()), 30)

    def finite(self, one, of, chance):
        """That a real use is finite: no use follows itself, and there are not more and more."""
        thing = INT
        for _ in range(chance.randrange(5)):
            thing = chance.choice([ptr(thing), pair(thing, ("~", 1)), tri(INT, thing, thing)])
        words = tuple(chance.choice(dict(GARDEN.lists)[sort]) for sort in of[1].sorts if sort != "kind")
        state, todo = {}, [((of[0], words, thing), False)]
        while todo:
            use, behind = todo.pop()
            if behind:
                state[use] = "done"
            elif use not in state:
                state[use] = "open"
                self.assertLess(len(state), 5000)
                todo.append((use, True))
                todo.extend((each, False) for each in slow_following(one, use))
            else:
                self.assertEqual(state[use], "done")


if __name__ == "__main__":
    unittest.main()
