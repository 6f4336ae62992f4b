"""Whether two tables of one book and the same sorts choose alike."""

from nearestkinds.errors import OtherPlaces
from nearestkinds.rows import choice, least, nearness_of_all
from nearestkinds.tables import is_asked, nearest
from nearestkinds.ways import MOST_MEETS, askers, in_order, meets_by_text, met_cases, unknown_use


def unlike(one, other):
    """A pair of a use and facts for which the choices of two tables do not agree, or None."""
    check_places(one, other)
    near, near_other = nearness_of_all(one.rows), nearness_of_all(other.rows)
    many = len(one.rows)
    for use, facts, lot in cases_of_both(one, other):
        mine = choice(one.rows, least(near, [row for row in lot if row < many]))
        theirs = choice(other.rows, least(near_other, [row - many for row in lot if row >= many]))
        if not are_agreed(mine, theirs):
            return (use, facts)
    return None


def is_unlike(one, other, thing):
    """Whether a thing is a pair of a use and facts for which the choices of two tables do not agree."""
    check_places(one, other)
    if not is_asked(one, thing):
        return False
    return not are_agreed(nearest(one, thing[0], thing[1]), nearest(other, thing[0], thing[1]))


def cases_of_both(one, other):
    """The cases of the meets of each of two tables, with the lot of the rows met, those of the other one behind."""
    first = unknown_use(one.sorts)
    found = meets_by_text(first, one.rows, MOST_MEETS)
    found.update(meets_by_text(first, other.rows, MOST_MEETS))
    return met_cases(one.book, one.sorts, askers(one.rows) + askers(other.rows), in_order(found))


def are_agreed(choice_here, choice_there):
    """Whether two choices are both the row of one label, both none, or both many, whichever."""
    return choice_here[0] == choice_there[0] and (choice_here[0] == "many" or choice_here == choice_there)


def check_places(one, other):
    """Raises OtherPlaces if two tables are not of one book and the same sorts."""
    if not one.book == other.book or one.sorts != other.sorts:
        raise OtherPlaces()
