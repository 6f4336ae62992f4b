"""Paths into uses, and the tests of what stands there."""

from nearestkinds.demands import is_told
from nearestkinds.parts import are_same
from nearestkinds.things import is_integer, is_tuple, is_word


def sort_at(table, known, path):
    """The sort of what stands at a path behind tests that said yes to heads, or None if nothing is sure to stand there.

    known is a dict from the paths of these tests to the heads.
    """
    if type(path) is not tuple:
        return None
    heads, sorts, sort = dict(table.book.heads), table.sorts, None
    for k, step in enumerate(path):
        if k > 0:
            # All steps ahead are numbers here, so that they may be looked for among the paths.
            sorts = heads[known[path[:k]]] if path[:k] in known else ()
        if not is_integer(step) or not 0 <= step < len(sorts):
            return None
        sort = sorts[step]
    return sort


def is_test(table, known, thing):
    """Whether a thing is a test that may be asked behind tests that said yes to heads."""
    if not is_tuple(thing, 3, 3) or type(thing[0]) is not str:
        return False
    what, one, other = thing
    if what == "claim":
        return is_word(one, table.book.claims) and sort_at(table, known, other) == "kind"
    sort = sort_at(table, known, one)
    if sort is None:
        return False
    if what == "head":
        return sort == "kind" and is_word(other, dict(table.book.heads)) and one not in known
    if what == "same":
        return sort == sort_at(table, known, other) and one != other
    if what == "number":
        return sort == "number" and is_integer(other)
    return what == "word" and sort not in ("kind", "number") and is_word(other, dict(table.book.lists)[sort])


def behind_yes(known, test):
    """The heads that are known behind a test that said yes."""
    if test[0] != "head":
        return known
    more = {path: known[path] for path in known}
    more[test[1]] = test[2]
    return more


def thing_at(use, path):
    """What stands at a path of a use."""
    thing = use[path[0]]
    for step in path[1:]:
        thing = thing[1 + step]
    return thing


def says_yes(test, use, facts):
    """Whether a test says yes to a use by facts."""
    what, one, other = test
    if what == "claim":
        return is_told((one, thing_at(use, other)), facts)
    thing = thing_at(use, one)
    if what == "head":
        return thing[0] == other
    if what == "same":
        return are_same(thing, thing_at(use, other))
    return thing == other
