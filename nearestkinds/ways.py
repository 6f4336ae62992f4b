"""The finitely many cases by which endlessly many uses are judged.

What asks is a row or a wish: a pair of a bundle and a demand about its unknowns.
"""

from itertools import combinations

from nearestkinds.demands import claims_within, neat
from nearestkinds.errors import TooMany
from nearestkinds.parts import all_parts
from nearestkinds.patterns import filled, matched, meet, plain
from nearestkinds.things import is_integer, sorts_of_unknowns
from nearestkinds.writing import written

MOST_MEETS = 200
MOST_CASES = 2000


def askers(rows):
    """What of rows asks: their patterns and demands."""
    return [row[1:] for row in rows]


def unknown_use(sorts):
    """The plain bundle of unknowns alone, of which each bundle of the sorts is an instance."""
    return tuple([("?", n) for n in range(len(sorts))])


def meets_by_text(bundle, rows, most):
    """A dict from texts to the meets of a bundle with the patterns of some rows, of none too."""
    first = plain(bundle)
    found = {written(first): first}
    for row in rows:
        for earlier in list(found.values()):
            both = meet(earlier, row[1])
            if both is not None:
                found[written(both)] = both
        if len(found) > most:
            raise TooMany(most)
    return found


def in_order(found):
    """The values of a dict from texts, ascending by these."""
    return [found[text] for text in sorted(found)]


def meets_of_wish(bundle, rows):
    """The list of the meets of a wish's bundle with the patterns of some rows, of none too, ascending by texts."""
    try:
        return in_order(meets_by_text(bundle, rows, MOST_CASES))
    except TooMany:
        # A meet of more than 200 parts is told as too many cases are.
        raise TooMany(MOST_CASES) from None


def row_cases(book, sorts, rows):
    """The cases of a table with these rows, as met_cases tells them."""
    bundles = in_order(meets_by_text(unknown_use(sorts), rows, MOST_MEETS))
    return met_cases(book, sorts, askers(rows), bundles)


def met_cases(book, sorts, asking, bundles):
    """The list of the cases of some meets, as triples: the use, the facts, the lot of what asks and is met by them."""
    told = []
    numbers = numbers_within(asking)
    sought = [(patterns, claims_within(demand), neat(demand)) for patterns, demand in asking]
    for bundle in bundles:
        given = given_anew(sorts_of_unknowns(book, sorts, bundle), numbers)
        for worded in worded_ways(book, sorts, bundle):
            facts, wanted = asked(sought, worded, given)
            if len(told) + (1 << len(facts)) > MOST_CASES:
                raise TooMany(MOST_CASES)
            use = filled(worded, given)
            for some in some_of(sorted(facts)):
                told.append((use, tuple([facts[key] for key in some]), met_by(some, wanted)))
    return told


def numbers_within(asking):
    """A dict whose keys are the integers that stand in what asks."""
    return {part: True for patterns, _ in asking for part in all_parts(patterns) if is_integer(part)}


def given_anew(sorts, numbers):
    """The filling of unknowns of sort kind by new kinds, and of those of sort number by numbers that are not told."""
    given = {}
    kinds, number = 0, 0
    for n in sorted(sorts):
        if sorts[n] == "kind":
            given[n] = ("~", kinds)
            kinds += 1
        elif sorts[n] == "number":
            while number in numbers:
                number += 1
            given[n] = number
            number += 1
    return given


def worded_ways(book, sorts, bundle):
    """The bundle filled by words in all ways, the lesser word for the unknown numbered least first."""
    found, words = sorts_of_unknowns(book, sorts, bundle), dict(book.lists)
    fillings = [{}]
    for n in sorted(found):
        if found[n] in words:
            fillings = [{**filling, n: word} for filling in fillings for word in sorted(words[found[n]])]
        # Each way has a case at least; without this there might be too many ways to be told at all.
        if len(fillings) > MOST_CASES:
            raise TooMany(MOST_CASES)
    return [filled(bundle, filling) for filling in fillings]


def asked(sought, bundle, given):
    """What is asked of a filled bundle: a dict of facts by claim and text, and for each that asks its lots of these.

    Where the bundle is no instance of the patterns there are no lots, so that nothing is enough.
    """
    facts, wanted = {}, []
    for patterns, claims, lots in sought:
        found = matched(patterns, bundle)
        keys = {}
        for name, n in claims if found is not None else []:
            kind = filled((found[n],), given)
            keys[(name, n)] = (name, written(kind))
            facts[keys[(name, n)]] = (name, kind[0])
        wanted.append([[keys[pair] for pair in lot] for lot in lots] if found is not None else [])
    return facts, wanted


def some_of(keys):
    """All tuples of some of the keys, fewer ones first, then ascending as the keys do."""
    return [some for many in range(len(keys) + 1) for some in combinations(keys, many)]


def met_by(some, wanted):
    """The lot of the askers one of whose lots is all among some facts."""
    return tuple([k for k, lots in enumerate(wanted) if any([all([key in some for key in lot]) for lot in lots])])
