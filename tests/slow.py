"""A book, tables by chance, and slow but plain ways of reckoning with tables that several tests share."""

import functools
import itertools

from nearestkinds.errors import BadTable
from nearestkinds.tables import Table
from nearestkinds.things import Book
from tests.samples import is_instance, renamed, slow_bundle, slow_match, slow_meet, slow_plain

DESK = Book(
    (("flag", ("yes", "no")), ("size", ("small", "middle", "large"))),
    (("int", ()), ("ptr", ("kind",)), ("pair", ("kind", "kind")), ("opt", ("flag", "number", "kind")),
     ("mode", ("size", "kind")), ("tri", ("kind", "kind", "kind"))),
    ("even", "odd", "good", "bad"),
)
KIND = ("kind",)
INT = ("int",)
A, B, C = ("?", 0), ("?", 1), ("?", 2)


def ptr(thing):
    return ("ptr", thing)


def pair(one, other):
    return ("pair", one, other)


def tri(one, two, three):
    return ("tri", one, two, three)


def new(n):
    return ("~", n)


def claim(name, n):
    return ("claim", name, n)


def both(one, other):
    return ("both", one, other)


def either(one, other):
    return ("either", one, other)


def table(sorts, *rows):
    """A table of the desk; a row is its patterns, or a list of these and its demand; the labels are a, b, .."""
    told = [row if isinstance(row, list) else [row, None] for row in rows]
    return Table(DESK, sorts, tuple(("abcdefghij"[k], *row) for k, row in enumerate(told)))


def claims_of(demand):
    """All claims of a demand, by calls within calls."""
    if demand is None:
        return []
    return [demand[1:]] if demand[0] == "claim" else claims_of(demand[1]) + claims_of(demand[2])


def slow_holds(demand, true):
    """Whether a demand holds if just these pairs of a claim and the number of an unknown are true."""
    if demand is None:
        return True
    if demand[0] == "claim":
        return demand[1:] in true
    told = [slow_holds(demand[1], true), slow_holds(demand[2], true)]
    return all(told) if demand[0] == "both" else any(told)


def lots_of(things):
    """All lists of some of the things."""
    return [list(some) for many in range(len(things) + 1) for some in itertools.combinations(things, many)]


def slow_neat(demand):
    """The least lots of claims that are enough, found by trying all lots."""
    enough = [set(lot) for lot in lots_of(sorted(set(claims_of(demand)))) if slow_holds(demand, set(lot))]
    return tuple(sorted(tuple(sorted(lot)) for lot in enough if not any(other < lot for other in enough)))


def slow_text(thing):
    """The text of a thing, by calls within calls."""
    if not isinstance(thing, tuple):
        return str(thing)
    if thing[0] in ("?", "~"):
        return f"{thing[0]}{thing[1]}"
    return f"{thing[0]}({','.join(map(slow_text, thing[1:]))})"


def text(bundle):
    """The text of a bundle."""
    return ";".join(map(slow_text, bundle))


def match(bundle, other):
    """The filling by which a bundle becomes another one, or None."""
    found = {}
    return found if all([slow_match(thing, part, found) for thing, part in zip(bundle, other)]) else None


def slow_meets_row(row, use, facts):
    """Whether a row meets a use by facts."""
    found = match(row[1], use)
    if found is None:
        return False
    return slow_holds(row[2], {pair for pair in claims_of(row[2]) if (pair[0], found[pair[1]]) in facts})


@functools.cache
def slow_nearer(row, other):
    """Whether a row is nearer than another one, by all facts there may be about the unknowns."""
    one, two = is_instance(row[1], other[1]), is_instance(other[1], row[1])
    if not (one and two):
        return one
    names = match(other[1], row[1])
    mine, theirs = claims_of(row[2]), [(name, names[n][1]) for name, n in claims_of(other[2])]
    told = {"one": True, "other": True}
    for lot in lots_of(sorted(set(mine + theirs))):
        here = slow_holds(row[2], set(lot))
        there = slow_holds(other[2], {pair for pair in claims_of(other[2]) if (pair[0], names[pair[1]][1]) in lot})
        told["one"] = told["one"] and (there or not here)
        told["other"] = told["other"] and (here or not there)
    return told["one"] and not told["other"]


def slow_choice(rows, use, facts):
    """The choice among rows."""
    met = [row for row in rows if slow_meets_row(row, use, facts)]
    first = [row for row in met if not any(slow_nearer(other, row) for other in met)]
    if not met:
        return ("none",)
    if len(first) == 1:
        assert all(row == first[0] or slow_nearer(first[0], row) for row in met)
        return ("row", first[0][0])
    return ("many", tuple(row[0] for row in first))


def agree(one, other):
    """Whether two choices agree."""
    return one[0] == other[0] and (one[0] != "row" or one == other)


def slow_meets(first, rows):
    """The meets of a plain bundle with the patterns of each lot of rows, each once, ascending by texts."""
    return list(kept_meets(first, tuple(rows)))


@functools.cache
def kept_meets(first, rows):
    """What slow_meets tells, reckoned once."""
    found = {}
    for lot in lots_of(rows):
        bundle = first
        for row in lot:
            bundle = None if bundle is None else slow_meet(bundle, row[1])
        if bundle is not None:
            found[text(bundle)] = bundle
    return tuple(found[each] for each in sorted(found))


def top(sorts):
    """The bundle of unlike unknowns."""
    return tuple(("?", n) for n in range(len(sorts)))


def sorts_within(book, sorts, bundle):
    """A dict from the unknowns of a bundle to their sorts, by calls within calls."""
    found = {}
    for sort, thing in zip(sorts, bundle):
        if isinstance(thing, tuple) and thing[0] == "?":
            found[thing[1]] = sort
        elif isinstance(thing, tuple) and thing[0] != "~":
            found.update(sorts_within(book, dict(book.heads)[thing[0]], thing[1:]))
    return found


def numbers_within(things):
    """All integers that stand in open things."""
    found = set()
    for thing in things:
        if type(thing) is int:
            found.add(thing)
        elif isinstance(thing, tuple) and thing[0] not in ("?", "~"):
            found |= numbers_within(thing[1:])
    return found


def slow_cases(book, sorts, bundles, asking):
    """The cases of some meets, by what asks: pairs of patterns and a demand."""
    told = []
    taken = set().union(*[numbers_within(patterns) for patterns, _ in asking])
    for bundle in bundles:
        found = sorts_within(book, sorts, bundle)
        kinds = [n for n in sorted(found) if found[n] == "kind"]
        numbers = [n for n in sorted(found) if found[n] == "number"]
        worded = [n for n in sorted(found) if found[n] in dict(book.lists)]
        given = {n: new(k) for k, n in enumerate(kinds)}
        given.update(zip(numbers, (n for n in itertools.count() if n not in taken)))
        for words in itertools.product(*[sorted(dict(book.lists)[found[n]]) for n in worded]):
            use = tuple(renamed(thing, {**given, **dict(zip(worded, words))}) for thing in bundle)
            facts = set()
            for patterns, demand in asking:
                filling = match(patterns, use)
                facts |= {(name, filling[n]) for name, n in claims_of(demand)} if filling is not None else set()
            facts = sorted(facts, key=lambda fact: (fact[0], slow_text(fact[1])))
            told.extend((use, tuple(lot)) for lot in lots_of(facts))
    return told


def all_cases(one):
    """The cases of a table."""
    asking = [row[1:] for row in one.rows]
    return slow_cases(one.book, one.sorts, slow_meets(top(one.sorts), one.rows), asking)


def wish_cases(one, wish):
    """The cases of a wish, those too by whose facts its demand does not hold."""
    asking = [row[1:] for row in one.rows] + [wish]
    return slow_cases(one.book, one.sorts, slow_meets(slow_plain(wish[0]), one.rows), asking)


def becomes(wish, use, facts):
    """Whether a wish may become a use by facts."""
    return slow_meets_row(("wish", *wish), use, facts)


def is_pair(one, thing):
    """Whether a thing is a pair of a use and facts of a table."""
    if type(thing) is not tuple or len(thing) != 2 or "?" in repr(thing) or type(thing[1]) is not tuple:
        return False
    facts = all(type(fact) is tuple and len(fact) == 2 and type(fact[0]) is str and fact[0] in one.book.claims
                and slow_bundle(one.book, KIND, fact[1:]) for fact in thing[1])
    return facts and slow_bundle(one.book, one.sorts, thing[0])


SORTS = [KIND, KIND, ("kind", "kind"), ("kind", "flag"), ("number", "kind"), ("flag", "kind", "number"),
         ("size", "flag"), ("number", "number")]


def some_thing(chance, sort, deep, unknowns, kinds):
    """An open thing of a sort: each of so many unknowns may stand in it, and these kinds."""
    first = {"kind": 0, "number": 5, "flag": 10, "size": 15}[sort]
    if unknowns and chance.random() < 0.45:
        return ("?", first + chance.randrange(unknowns))
    if sort == "number":
        return chance.choice([0, 1, 2, 10, -1])
    if sort != "kind":
        return chance.choice(dict(DESK.lists)[sort])
    if deep < 2:
        return chance.choice(kinds)
    name, sorts = chance.choice(DESK.heads)
    return (name,) + tuple(some_thing(chance, inner, deep - 1, unknowns, kinds) for inner in sorts)


def some_bundle(chance, sorts, deep, unknowns):
    """A bundle without new kinds."""
    return tuple(some_thing(chance, sort, deep, unknowns, [INT]) for sort in sorts)


def some_demand(chance, bundle, sorts, deep):
    """A demand about the unknowns of sort kind of a bundle."""
    found = sorts_within(DESK, sorts, bundle)
    kinds = [n for n in sorted(found) if found[n] == "kind"]
    if not kinds or chance.random() < 0.4:
        return None

    def demand(left):
        if left < 2 or chance.random() < 0.5:
            return claim(chance.choice(["even", "odd"]), chance.choice(kinds))
        return (chance.choice(["both", "either"]), demand(left - 1), demand(left - 1))

    return demand(deep)


def some_table(chance, sorts, most):
    """A table with at most so many rows."""
    while True:
        rows = []
        for label in "abcdefgh"[:chance.randrange(most + 1)]:
            bundle = some_bundle(chance, sorts, chance.randrange(1, 4), 2)
            # Often a row has the patterns of an earlier one, so that their demands matter.
            if rows and chance.random() < 0.3:
                bundle = chance.choice(rows)[1]
            rows.append((label, bundle, some_demand(chance, bundle, sorts, 3)))
        try:
            return Table(DESK, sorts, tuple(rows))
        except BadTable:
            continue


def some_clear(chance, sorts, most):
    """A clear table, with rows for what is missing where it may have them."""
    while True:
        one = some_table(chance, sorts, most)
        texts = {text(slow_plain(row[1])) for row in one.rows}
        lacking = [each for each in slow_meets(top(sorts), one.rows)[1:] if text(each) not in texts]
        try:
            one = Table(DESK, sorts, one.rows + tuple(("m" + "xy"[k > 9] + "abcdefghij"[k % 10], each, None)
                                                       for k, each in enumerate(lacking) if each != top(sorts)))
        except BadTable:
            continue
        if not any(slow_choice(one.rows, *each)[0] == "many" for each in all_cases(one)):
            return one


def some_use(chance, one, bundle=None):
    """A use that is an instance of a bundle, or of a meet of a table, by things of many kinds."""
    if bundle is None:
        bundle = chance.choice(slow_meets(top(one.sorts), one.rows))
    found = sorts_within(one.book, one.sorts, bundle)
    kinds = [INT, new(0), new(1), new(7), ("mode", "large", INT)]
    filling = {n: some_thing(chance, found[n], chance.randrange(1, 4), 0, kinds) for n in sorted(found)}
    for n in sorted(found):
        if found[n] == "number" and chance.random() < 0.5:
            filling[n] = chance.choice([3, 4, 99])
    return tuple(renamed(thing, filling) for thing in bundle)


def kinds_within(thing):
    """All kinds that stand in a thing."""
    if not isinstance(thing, tuple):
        return []
    if thing[0] == "~":
        return [thing]
    return [thing] + [kind for inner in thing[1:] for kind in kinds_within(inner)]


def some_facts(chance, use):
    """Facts about kinds that stand in a use, and about others."""
    kinds = [kind for thing in use for kind in kinds_within(thing)] + [new(0), INT]
    told = [(name, kind) for name in ("even", "odd") for kind in kinds if chance.random() < 0.5]
    chance.shuffle(told)
    return tuple(told)


def other_things(thing, odd):
    """All that become of a thing when one part of it is another one, is left out, or stands twice, or is a list."""
    told = list(odd)
    if isinstance(thing, tuple):
        told.append(list(thing))
        for k in range(len(thing)):
            told.append(thing[:k] + thing[k + 1:])
            told.append(thing[:k] + thing[k:k + 1] + thing[k:])
            told.extend(thing[:k] + (part,) + thing[k + 1:] for part in other_things(thing[k], odd))
    return told
