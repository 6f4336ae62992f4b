"""The meets of a table's rows, and their cases: for every use just the same rows meet one of these."""

from nearestkinds.demands import claims_within, is_told
from nearestkinds.patterns import filled, matched, meet
from nearestkinds.tables import check_asked
from nearestkinds.things import sorts_of_unknowns
from nearestkinds.ways import (MOST_MEETS, askers, given_anew, in_order, meets_by_text, numbers_within, row_cases,
                               unknown_use)
from nearestkinds.writing import written


def meets(table):
    """The list of the meets of the patterns of some rows, of none too, ascending by their texts."""
    return in_order(meets_by_text(unknown_use(table.sorts), table.rows, MOST_MEETS))


def cases(table):
    """The list of the cases of all meets, pairs of a use and facts."""
    return [(use, facts) for use, facts, _ in table_cases(table)]


def table_cases(table):
    """The list of the cases of a table, triples of a use, facts, and the lot of the rows that meet it by these."""
    return row_cases(table.book, table.sorts, table.rows)


def case_of(table, use, facts):
    """The case that just the rows meet that meet the use by facts."""
    check_asked(table, use, facts)
    asking = [pair for pair in askers(table.rows) if matched(pair[0], use) is not None]
    bundle = meet_of_all(unknown_use(table.sorts), asking)
    found, sorts = matched(bundle, use), sorts_of_unknowns(table.book, table.sorts, bundle)
    worded = filled(bundle, {n: found[n] for n in found if sorts[n] not in ("kind", "number")})
    given = given_anew(sorts, numbers_within(askers(table.rows)))
    told = {}
    for patterns, demand in asking:
        # The kinds are told by the meet's unknowns first, so that the case's and the use's stand side by side.
        kinds = matched(patterns, worded)
        for name, n in claims_within(demand):
            if is_told((name, filled((kinds[n],), found)[0]), facts):
                kind = filled((kinds[n],), given)
                told[(name, written(kind))] = (name, kind[0])
    return (filled(worded, given), tuple(in_order(told)))


def meet_of_all(bundle, asking):
    """The meet of a bundle with all patterns of what asks, where there is one."""
    for patterns, _ in asking:
        bundle = meet(bundle, patterns)
    return bundle
