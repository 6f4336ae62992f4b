"""The cases of the leaves of a tree, by which it is judged for all uses."""

from nearestkinds.errors import TooMany
from nearestkinds.parts import built
from nearestkinds.paths import behind_yes
from nearestkinds.patterns import MOST_PARTS, united_parts
from nearestkinds.ways import MOST_CASES, askers, meets_of_wish, met_cases, unknown_use
from nearestkinds.webs import Web


def leaf_cases(table, tree):
    """The cases of all leaves: triples of the use, the facts, and the lot of the table's rows that are met."""
    told = []
    todo = [(tree, ())]
    while todo:
        part, way = todo.pop()
        if len(part) == 3:
            todo.append((part[2], way + ((part[0], False),)))
            todo.append((part[1], way + ((part[0], True),)))
            continue
        told.extend(cases_of_way(table, way))
        if len(told) > MOST_CASES:
            raise TooMany(MOST_CASES)
    many = len(table.rows)
    return [(use, facts, [row for row in lot if row < many]) for use, facts, lot in told]


def cases_of_way(table, way):
    """The cases of what leads a way, pairs of a test and whether it said yes, to its leaf."""
    bundle = bundle_of_way(table, way)
    if bundle is None:
        return []
    # The tests ask like further rows: by the claims and the numbers in them.
    asking = askers(table.rows) + test_askers(table, way)
    return met_cases(table.book, table.sorts, asking, meets_of_wish(bundle, table.rows))


def bundle_of_way(table, way):
    """The plain bundle of what was said yes on a way, or None if there is nothing of which it holds."""
    web = Web()
    knots = web.put(unknown_use(table.sorts))
    heads = dict(table.book.heads)
    for test, said in way:
        if said and test[0] != "claim" and not web.unite([pair_of_test(web, knots, heads, test)]):
            return None
    if not web.is_finite(knots):
        return None
    try:
        return built(united_parts(web, knots, MOST_PARTS), {})
    except TooMany:
        raise TooMany(MOST_CASES) from None


def pair_of_test(web, knots, heads, test):
    """The two knots that stand for one thing if a test says yes."""
    what, path, other = test
    one = knot_at(web, knots, path)
    if what == "same":
        return (one, knot_at(web, knots, other))
    thing = (other, *unknown_use(heads[other])) if what == "head" else other
    return (one, web.put((thing,))[0])


def knot_at(web, knots, path):
    """The knot at a path: all heads on it have been put there by tests that said yes."""
    knot = knots[path[0]]
    for step in path[1:]:
        knot = web.inner[web.top(knot)][step]
    return knot


def test_askers(table, way):
    """What of the tests of a way asks for facts or has a number in it, as pairs of a bundle and a demand."""
    told = []
    known = {}
    for test, said in way:
        if test[0] == "claim":
            told.append((bundle_around(table, known, test[2], ("?", 0)), ("claim", test[1], 0)))
        elif test[0] == "number":
            told.append((bundle_around(table, known, test[1], test[2]), None))
        if said:
            known = behind_yes(known, test)
    return told


def bundle_around(table, known, path, thing):
    """The bundle with a thing at a path and just the heads around it that lead there: all else are unlike unknowns."""
    heads, first = dict(table.book.heads), 1
    for cut in range(len(path) - 1, 0, -1):
        name = known[path[:cut]]
        thing = (name, *among_unknowns(thing, path[cut], len(heads[name]), first))
        first += len(heads[name])
    return among_unknowns(thing, path[0], len(table.sorts), first)


def among_unknowns(thing, place, many, first):
    """A tuple of so many: the thing at its place, and unknowns numbered from the first one on."""
    return tuple([thing if k == place else ("?", first + k) for k in range(many)])
