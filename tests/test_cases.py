"""[3.1], [3.2]: the meets of tables, their cases, and the case of a use."""

import random
import unittest

from nearestkinds.cases import case_of, cases, meets
from nearestkinds.errors import NoFacts, NoUse
from nearestkinds.tables import Table, meeting, nearest
from nearestkinds.things import is_use
from tests.great import MEETS_200, PARTS_200, SORTS_OF_CASES, SORTS_OF_PLACES, cases_2000
from tests.samples import STRANGE, chain, count, shallow, wide
from tests.slow import (A, B, C, DESK, INT, KIND, SORTS, all_cases, both, claim, either, new, pair, ptr, slow_choice,
                        slow_meets, some_facts, some_table, some_use, table, text, top, tri)

EVEN, ODD = claim("even", 0), claim("odd", 0)
TWO = ("kind", "kind")


class MeetsTest(unittest.TestCase):
    def test_ordinary(self):
        self.assertEqual(meets(Table(DESK, KIND, ())), [(A,)])
        self.assertEqual(meets(Table(DESK, ("kind", "flag", "number"), ())), [(A, B, C)])
        self.assertEqual(meets(table(KIND, (A,), (ptr(A),), (ptr(INT),))), [(A,), (ptr(A),), (ptr(INT),)])
        self.assertEqual(meets(table(TWO, (INT, A), (A, INT))), [(A, B), (A, INT), (INT, A), (INT, INT)])
        self.assertEqual(meets(table(TWO, (A, A), (ptr(INT), B))),
                         [(A, A), (A, B), (ptr(INT), A), (ptr(INT), ptr(INT))])
        self.assertEqual(meets(table(KIND, (INT,), (ptr(A),))), [(A,), (INT,), (ptr(A),)])

    def test_none_of_rows(self):
        self.assertEqual(meets(table(KIND, (INT,))), [(A,), (INT,)])
        self.assertEqual(meets(table(KIND, (("?", 7),))), [(A,)])

    def test_plain_and_each_once(self):
        one = table(TWO, (("?", 9), ("?", 3)), (ptr(("?", 9)), ("?", 3)), (("?", 3), ptr(("?", 9))),
                    [(ptr(C), ptr(("?", 4))), None])
        self.assertEqual(meets(one), [(A, B), (A, ptr(B)), (ptr(A), B), (ptr(A), ptr(B))])
        one = table(TWO, [(A, B), EVEN], [(B, A), EVEN], [(A, B), both(EVEN, ODD)], (ptr(B), A))
        self.assertEqual(meets(one), [(A, B), (ptr(A), B)])

    def test_some_have_none(self):
        self.assertEqual(meets(table(KIND, (INT,), (ptr(INT),), (pair(A, A),))),
                         [(A,), (INT,), (pair(A, A),), (ptr(INT),)])
        self.assertEqual(meets(table(TWO, (A, A), (A, ptr(A)))), [(A, A), (A, B), (A, ptr(A))])
        self.assertEqual(meets(table(("flag", "number"), ("yes", A), (B, 3), ("no", -3))),
                         [(A, 3), (A, B), ("no", -3), ("yes", 3), ("yes", A)])

    def test_ascending_by_texts(self):
        self.assertEqual(meets(table(("number",), (10,), (9,), (1,), (-1,), (100,))),
                         [(-1,), (1,), (10,), (100,), (9,), (A,)])
        self.assertEqual(meets(table(("number", "number"), (1, A), (10, A), (9, B))),
                         [(10, A), (1, A), (9, A), (A, B)])
        self.assertEqual(meets(table(("size", "flag"), ("small", A), ("middle", "yes"), (A, "no"))),
                         [(A, B), (A, "no"), ("middle", "yes"), ("small", A), ("small", "no")])
        many = tri(tri(A, B, C), tri(("?", 3), ("?", 4), ("?", 5)), tri(("?", 6), ("?", 7), ("?", 8)))
        one = table(("kind", "kind", "kind"), (many, A, ("?", 9)), (many, ("?", 9), B))
        self.assertEqual(meets(one), [(A, B, C), (many, A, B), (many, A, ("?", 9)), (many, ("?", 9), B)])
        self.assertEqual(meets(table(KIND, (("opt", "yes", A, INT),), (("opt", A, 10, INT),), (("opt", A, 9, INT),))),
                         [(A,), (("opt", A, 10, INT),), (("opt", A, 9, INT),), (("opt", "yes", 10, INT),),
                          (("opt", "yes", 9, INT),), (("opt", "yes", A, INT),)])

    def test_the_greatest(self):
        told = meets(Table(DESK, SORTS_OF_PLACES, MEETS_200))
        self.assertEqual(told, slow_meets(top(SORTS_OF_PLACES), MEETS_200))
        self.assertEqual(len(told), 200)
        told = meets(table(("kind",) * 4, *PARTS_200))
        self.assertEqual(told, slow_meets(top(("kind",) * 4), [("a", patterns, None) for patterns in PARTS_200]))
        self.assertEqual(max(sum(map(count, bundle)) for bundle in told), 200)

    def test_rows_turned_about(self):
        chance = random.Random(41)
        for _ in range(60):
            one = some_table(chance, chance.choice(SORTS), 6)
            rows = list(one.rows)
            chance.shuffle(rows)
            self.assertEqual(meets(Table(DESK, one.sorts, tuple(rows))), meets(one))

    def test_random(self):
        chance = random.Random(42)
        for _ in range(120):
            one = some_table(chance, chance.choice(SORTS), 6)
            self.assertEqual(meets(one), slow_meets(top(one.sorts), one.rows))

    def test_new_lists(self):
        one = table(TWO, (INT, A), (A, INT))
        told = meets(one)
        told.pop()
        told.append(None)
        self.assertEqual(meets(one), [(A, B), (A, INT), (INT, A), (INT, INT)])


class CasesTest(unittest.TestCase):
    def test_new_kinds(self):
        self.assertEqual(cases(Table(DESK, TWO, ())), [((new(0), new(1)), ())])
        self.assertEqual(cases(table(TWO, (pair(A, B), A), (ptr(A), ("?", 9)))),
                         [((new(0), new(1)), ()), ((pair(new(0), new(1)), new(0)), ()), ((ptr(new(0)), new(1)), ())])

    def test_numbers_that_stand_in_no_row(self):
        one = table(("number", "kind", "number"), (0, A, B), (A, ("opt", "yes", 2, B), C), (A, B, A))
        told = {text(use) for use, _ in cases(one)}
        self.assertEqual(told, {"1;~0;3", "0;~0;1", "1;~0;1", "1;opt(yes,2,~0);3", "1;opt(yes,2,~0);1",
                                "0;opt(yes,2,~0);1", "0;~0;0", "0;opt(yes,2,~0);0"})
        one = table(("number", "number"), (-1, 10), (A, A), (0, B), (2, 1))
        self.assertEqual([use for use, _ in cases(one)], [(-1, 10), (0, 0), (0, 3), (2, 1), (3, 3), (3, 4)])

    def test_words_in_their_order(self):
        told = [((one, two), ()) for one in ("large", "middle", "small") for two in ("no", "yes")]
        self.assertEqual(cases(Table(DESK, ("size", "flag"), ())), told)
        one = table(("size", "kind", "flag"), (A, ("opt", B, 4, C), B))
        told = [((word, new(0), flag), ()) for word in ("large", "middle", "small") for flag in ("no", "yes")]
        more = [((word, ("opt", flag, 4, new(0)), flag), ()) for word in ("large", "middle", "small")
                for flag in ("no", "yes")]
        self.assertEqual(cases(one), told + more)

    def test_the_words_are_those_of_the_unknown_numbered_least_first(self):
        one = table(("kind", "flag"), (("mode", ("?", 7), A), ("?", 3)))
        told = [use for use, _ in cases(one)][2:]
        self.assertEqual(told, [(("mode", word, new(0)), flag) for word in ("large", "middle", "small")
                                for flag in ("no", "yes")])

    def test_facts(self):
        one = table(KIND, [(A,), both(EVEN, ODD)])
        even, odd = ("even", new(0)), ("odd", new(0))
        self.assertEqual(cases(one), [((new(0),), ()), ((new(0),), (even,)), ((new(0),), (odd,)),
                                      ((new(0),), (even, odd))])
        one = table(KIND, (A,), [(pair(A, B),), either(claim("odd", 0), claim("odd", 1))])
        first, second = ("odd", new(0)), ("odd", new(1))
        use = (pair(new(0), new(1)),)
        self.assertEqual(cases(one)[1:], [(use, ()), (use, (first,)), (use, (second,)), (use, (first, second))])

    def test_facts_are_what_rows_ask_of_which_the_use_is_an_instance(self):
        one = table(KIND, [(A,), EVEN], [(ptr(A),), ODD], [(ptr(INT),), None], [(pair(A, B),), claim("good", 1)])
        told = {}
        for use, facts in cases(one):
            told.setdefault(text(use), []).append(facts)
        self.assertEqual(told["~0"], [(), (("even", new(0)),)])
        self.assertEqual(told["ptr(~0)"], [(), (("even", ptr(new(0))),), (("odd", new(0)),),
                                           (("even", ptr(new(0))), ("odd", new(0)))])
        self.assertEqual(told["ptr(int())"][3], (("even", ptr(INT)), ("odd", INT)))
        self.assertEqual(told["pair(~0,~1)"][3], (("even", pair(new(0), new(1))), ("good", new(1))))

    def test_one_fact_for_claims_of_two_rows(self):
        one = table(TWO, [(A, B), claim("even", 1)], [(A, A), both(EVEN, EVEN)], [(ptr(A), B), claim("even", 1)])
        told = {}
        for use, facts in cases(one):
            told.setdefault(text(use), []).append(facts)
        self.assertEqual(told, {"~0;~1": [(), (("even", new(1)),)], "~0;~0": [(), (("even", new(0)),)],
                                "ptr(~0);~1": [(), (("even", new(1)),)],
                                "ptr(~0);ptr(~0)": [(), (("even", ptr(new(0))),)]})

    def test_needless_claims_are_asked_too(self):
        one = table(KIND, [(A,), both(EVEN, either(EVEN, ODD))])
        self.assertEqual(len(cases(one)), 4)

    def test_a_word_makes_an_instance_of_more_rows(self):
        one = table(("flag", "kind"), [(A, B), claim("even", 1)], [("yes", B), claim("odd", 1)])
        even, odd = ("even", new(0)), ("odd", new(0))
        no = [(("no", new(0)), facts) for facts in ((), (even,))]
        yes = [(("yes", new(0)), facts) for facts in ((), (even,), (odd,), (even, odd))]
        self.assertEqual(cases(one), no + yes + yes)

    def test_facts_by_claims_and_texts(self):
        many = [("?", n) for n in range(12)]
        demand = both(both(claim("odd", 2), claim("odd", 10)), both(claim("even", 9), claim("even", 10)))
        one = table(("kind",) * 4, [tuple(tri(*many[k:k + 3]) for k in range(0, 12, 3)), demand])
        order = [("even", new(10)), ("even", new(9)), ("odd", new(10)), ("odd", new(2))]
        told = [facts for _, facts in cases(one)][1:]
        self.assertEqual(told[:6], [(), *[(fact,) for fact in order], tuple(order[:2])])
        self.assertEqual(told[6:11], [(order[0], order[2]), (order[0], order[3]), (order[1], order[2]),
                                      (order[1], order[3]), (order[2], order[3])])
        self.assertEqual(told[-1], tuple(order))

    def test_meet_by_meet_in_their_order(self):
        one = table(("number", "number"), (1, A), (10, A), (9, B))
        self.assertEqual([use for use, _ in cases(one)], [(10, 0), (1, 0), (9, 0), (0, 2)])

    def test_the_greatest(self):
        for one in (Table(DESK, SORTS_OF_CASES, cases_2000()), Table(DESK, SORTS_OF_PLACES, MEETS_200),
                    table(("kind",) * 4, *PARTS_200)):
            self.assertEqual(cases(one), all_cases(one))

    def test_random(self):
        chance = random.Random(43)
        for _ in range(150):
            one = some_table(chance, chance.choice(SORTS), 6)
            told = cases(one)
            self.assertEqual(told, all_cases(one))
            for use, facts in told:
                self.assertTrue(is_use(DESK, one.sorts, use))

    def test_new_lists(self):
        one = table(KIND, [(A,), EVEN], (INT,))
        told = cases(one)
        kept = list(told)
        told.reverse()
        told.clear()
        self.assertEqual(cases(one), kept)
        self.assertTrue(all(type(case) is tuple and type(case[1]) is tuple for case in kept))


class CaseOfTest(unittest.TestCase):
    def test_ordinary(self):
        one = table(KIND, (A,), (ptr(A),), (ptr(INT),), [(ptr(ptr(A)),), EVEN])
        for use, facts, case in [
            ((INT,), (), ((new(0),), ())), ((new(7),), (), ((new(0),), ())), ((ptr(INT),), (), ((ptr(INT),), ())),
            ((ptr(new(3)),), (), ((ptr(new(0)),), ())), ((ptr(pair(INT, INT)),), (), ((ptr(new(0)),), ())),
            ((chain(5, INT),), (("even", chain(3, INT)),), ((chain(2, new(0)),), (("even", new(0)),))),
            ((chain(5, INT),), (("even", chain(4, INT)), ("odd", chain(3, INT))), ((chain(2, new(0)),), ())),
            ((chain(2, new(0)),), (("even", new(0)), ("even", new(0))), ((chain(2, new(0)),), (("even", new(0)),))),
            ((chain(2, new(1)),), (("even", new(0)),), ((chain(2, new(0)),), ())),
        ]:
            self.assertEqual(case_of(one, use, facts), case, (use, facts))

    def test_numbers(self):
        one = table(("number", "number", "kind"), (3, A, B), (A, A, B),
                    [(A, B, ("opt", "yes", 0, C)), claim("even", 2)])
        self.assertEqual(case_of(one, (3, 3, INT), ()), ((3, 3, new(0)), ()))
        self.assertEqual(case_of(one, (3, 5, INT), ()), ((3, 1, new(0)), ()))
        self.assertEqual(case_of(one, (0, 0, INT), ()), ((1, 1, new(0)), ()))
        self.assertEqual(case_of(one, (0, 3, INT), ()), ((1, 2, new(0)), ()))
        self.assertEqual(case_of(one, (10 ** 19, -4, new(1)), ()), ((1, 2, new(0)), ()))
        self.assertEqual(case_of(one, (7, 7, ("opt", "yes", 0, ptr(INT))), (("even", ptr(INT)), ("even", INT))),
                         ((1, 1, ("opt", "yes", 0, new(0))), (("even", new(0)),)))
        self.assertEqual(case_of(one, (7, 7, ("opt", "yes", 1, INT)), (("even", INT),)), ((1, 1, new(0)), ()))

    def test_words(self):
        one = table(("flag", "size"), ("yes", A), (A, "small"))
        for flag in ("yes", "no"):
            for size in ("small", "middle", "large"):
                self.assertEqual(case_of(one, (flag, size), ()), ((flag, size), ()))

    def test_facts_about_what_stands_in_the_places(self):
        opt = ("opt", "yes", 5, new(0))
        one = table(TWO, [(pair(A, B), C), both(claim("even", 0), claim("odd", 2))],
                    [(C, ("opt", A, B, ("?", 3))), claim("even", 2)])
        facts = (("even", INT), ("odd", opt), ("even", pair(INT, opt)), ("even", opt), ("odd", INT))
        case = (pair(new(0), new(1)), ("opt", "yes", 0, new(2)))
        told = (("even", pair(new(0), new(1))), ("even", new(0)), ("odd", ("opt", "yes", 0, new(2))))
        self.assertEqual(case_of(one, (pair(INT, opt), opt), facts), (case, told))
        self.assertEqual(case_of(one, (pair(INT, opt), opt), facts[::-1] + facts), (case, told))
        self.assertEqual(case_of(one, (pair(INT, opt), opt), facts[1:2]), (case, told[2:]))
        # One kind that stands at two places makes two facts.
        one = table(TWO, [(A, B), either(EVEN, claim("even", 1))])
        self.assertEqual(case_of(one, (INT, INT), (("even", INT),)),
                         ((new(0), new(1)), (("even", new(0)), ("even", new(1)))))
        self.assertEqual(case_of(one, (new(1), new(0)), (("even", new(0)),)), ((new(0), new(1)), (("even", new(1)),)))

    def test_facts_by_texts(self):
        many = [("?", n) for n in range(12)]
        demand = either(claim("even", 2), claim("even", 10))
        one = table(("kind",) * 4, [tuple(tri(*many[k:k + 3]) for k in range(0, 12, 3)), demand])
        use = (tri(INT, INT, INT),) * 4
        self.assertEqual(case_of(one, use, (("even", INT),))[1], (("even", new(10)), ("even", new(2))))

    def test_each_case_is_its_own_case(self):
        chance = random.Random(44)
        tables = [some_table(chance, chance.choice(SORTS), 6) for _ in range(80)]
        for one in tables + [Table(DESK, SORTS_OF_PLACES, MEETS_200), table(("kind",) * 4, *PARTS_200)]:
            for use, facts in cases(one):
                self.assertEqual(case_of(one, use, facts), (use, facts))
        one = Table(DESK, SORTS_OF_CASES, cases_2000())
        for use, facts in cases(one)[::19]:
            self.assertEqual(case_of(one, use, facts), (use, facts))

    def test_the_main_fact(self):
        chance = random.Random(45)
        for _ in range(150):
            one = some_table(chance, chance.choice(SORTS), 6)
            told = cases(one)
            for _ in range(8):
                use = some_use(chance, one)
                facts = some_facts(chance, use)
                case = case_of(one, use, facts)
                self.assertIn(case, told)
                self.assertEqual(meeting(one, *case), meeting(one, use, facts))
                self.assertEqual(nearest(one, *case), slow_choice(one.rows, use, facts))

    def test_errors(self):
        one = table(("kind", "flag"), [(A, B), EVEN])
        for use in STRANGE + [(INT,), (A, "yes"), (INT, A), [INT, "yes"], ("yes", INT), (("~", True), "yes")]:
            for facts in ((), None, [], (("even", A),)):
                with self.assertRaises(NoUse):
                    case_of(one, use, facts)
        for facts in STRANGE + [[], [("even", INT)], (("even", A),), (("small", INT),), (("even", INT),) * 201]:
            if facts != () or type(facts) is list:
                with self.assertRaises(NoFacts):
                    case_of(one, (INT, "yes"), facts)

    def test_deep_and_wide(self):
        one = table(TWO, [(A, A), EVEN], [(ptr(A), ptr(B)), claim("odd", 1)], (ptr(ptr(A)), B))
        deep = chain(199, INT)
        case = shallow(case_of, one, (deep, chain(199, INT)), (("even", chain(199, INT)), ("odd", chain(198, INT))))
        self.assertEqual(case, ((chain(2, new(0)),) * 2, (("even", chain(2, new(0))), ("odd", ptr(new(0))))))
        case = shallow(case_of, one, (wide(999), wide(999)), (("even", wide(999)),))
        self.assertEqual(case, ((new(0), new(0)), (("even", new(0)),)))
