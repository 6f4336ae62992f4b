"""Wishes: uses with unknowns, as they stand in a unit, and which rows a unit must see for all they may become."""

from nearestkinds.clear import unclear
from nearestkinds.demands import holds
from nearestkinds.errors import NoLot, NotClear, NoWish
from nearestkinds.patterns import matched
from nearestkinds.rows import is_asker, is_row_number, least, nearness_of_all
from nearestkinds.tables import is_asked, meeting, nearest_rows
from nearestkinds.things import MOST_UNKNOWNS, is_tuple
from nearestkinds.ways import askers, meets_of_wish, met_cases


def is_wish(table, thing):
    """Whether a thing is a pair of a small bundle of the table's sorts and a demand about its unknowns."""
    return is_tuple(thing, 2, 2) and is_asker(table.book, table.sorts, thing, MOST_UNKNOWNS)


def parting(table, seen, wish):
    """What the wish may become so that the choice among the seen rows is another than the table's, or None."""
    check_clear(table)
    check_lot(table, seen)
    check_wish(table, wish)
    near = nearness_of_all(table.rows)
    for use, facts, lot in become(table, wish):
        if least(near, lot) != least(near, those_seen(seen, lot)):
            return (use, facts)
    return None


def is_parting(table, seen, wish, thing):
    """Whether a thing is what the wish may become, and the choice among the seen rows is another than the table's."""
    check_clear(table)
    check_lot(table, seen)
    check_wish(table, wish)
    if not may_become(table, wish, thing):
        return False
    lot = meeting(table, thing[0], thing[1])
    return nearest_rows(table, lot) != nearest_rows(table, those_seen(seen, lot))


def view(table, wish):
    """The lot of the rows that are chosen for something that the wish may become."""
    check_clear(table)
    check_wish(table, wish)
    return tuple(sorted(set([row for case in chosen_becoming(table, wish) for row in case[2]])))


def chosen_becoming(table, wish):
    """The list of the cases of what the wish may become: triples of the use, the facts, and the rows of the choice."""
    near = nearness_of_all(table.rows)
    return [(use, facts, least(near, lot)) for use, facts, lot in become(table, wish)]


def become(table, wish):
    """The list of the cases of what the wish may become: triples of the use, the facts, and the lot of the rows met."""
    # The wish asks like one row more, and what it may become is what would meet this row.
    asking, last = askers(table.rows) + [wish], len(table.rows)
    told = met_cases(table.book, table.sorts, asking, meets_of_wish(wish[0], table.rows))
    return [(use, facts, lot[:-1]) for use, facts, lot in told if last in lot]


def may_become(table, wish, thing):
    """Whether a thing is a pair of a use and facts that the wish may become."""
    if not is_asked(table, thing):
        return False
    found = matched(wish[0], thing[0])
    return found is not None and holds(wish[1], found, thing[1])


def those_seen(seen, lot):
    """The list of those rows of a lot that are seen."""
    return [row for row in lot if row in seen]


def check_clear(table):
    """Raises NotClear if a table is not clear."""
    if unclear(table) is not None:
        raise NotClear()


def check_lot(table, seen):
    """Raises NoLot if what was passed for a lot of the table's rows is none."""
    if type(seen) is not tuple or not all([is_row_number(table.rows, row) for row in seen]):
        raise NoLot()
    if list(seen) != sorted(set(seen)):
        raise NoLot()


def check_wish(table, wish):
    """Raises NoWish if what was passed for a wish of the table is none."""
    if not is_wish(table, wish):
        raise NoWish()
