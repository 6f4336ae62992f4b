"""What can be chosen ahead of filling: the choice that is the same for all that a wish may become."""

from nearestkinds.rows import choice
from nearestkinds.tables import nearest
from nearestkinds.things import is_tuple
from nearestkinds.views import check_clear, check_wish, chosen_becoming, may_become


def early(table, wish):
    """The choice that is the same for all that the wish may become, or None."""
    check_clear(table)
    check_wish(table, wish)
    return choice_ahead(table, wish)


def choice_ahead(table, wish):
    """The early choice of a wish of a clear table, or None."""
    chosen = chosen_becoming(table, wish)
    first = chosen[0][2]
    if all([case[2] == first for case in chosen]):
        return choice(table.rows, first)
    return None


def two(table, wish):
    """A pair of pairs of a use and facts that the wish may become, whose choices are unlike, or None."""
    check_clear(table)
    check_wish(table, wish)
    chosen = chosen_becoming(table, wish)
    first = chosen[0]
    for use, facts, rows in chosen:
        if rows != first[2]:
            return (first[:2], (use, facts))
    return None


def is_two(table, wish, thing):
    """Whether a thing is a pair of pairs that the wish may become, whose choices are unlike."""
    check_clear(table)
    check_wish(table, wish)
    if not is_tuple(thing, 2, 2) or not all([may_become(table, wish, pair) for pair in thing]):
        return False
    return nearest(table, thing[0][0], thing[0][1]) != nearest(table, thing[1][0], thing[1][1])
