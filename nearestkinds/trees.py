"""Trees of tests: whether they are trees of a table, where they lead, and whether they choose as the table does."""

from nearestkinds.errors import NoTree, TooMany
from nearestkinds.growing import grown
from nearestkinds.leaves import leaf_cases
from nearestkinds.parts import all_parts
from nearestkinds.paths import behind_yes, is_test, says_yes
from nearestkinds.rows import choice, least, nearness_of_all
from nearestkinds.tables import check_asked, is_asked, nearest
from nearestkinds.things import is_tuple, is_word
from nearestkinds.views import check_clear

MOST_DEEP = 120
MOST_GROWN_ROWS = 4
MOST_GROWN_PARTS = 32


def is_tree(table, thing):
    """Whether a thing is a tree of a table."""
    labels = [row[0] for row in table.rows]
    todo = [(1, thing, {})]
    while todo:
        deep, part, known = todo.pop()
        if deep > MOST_DEEP:
            return False
        if is_tuple(part, 3, 3):
            if not is_test(table, known, part[0]):
                return False
            todo.append((deep + 1, part[2], known))
            todo.append((deep + 1, part[1], behind_yes(known, part[0])))
        elif not is_leaf(labels, part):
            return False
    return True


def is_leaf(labels, thing):
    """Whether a thing is a leaf of a tree of a table whose rows have these labels."""
    if not is_tuple(thing, 1, 2) or type(thing[0]) is not str:
        return False
    if len(thing) == 1:
        return thing[0] == "none"
    return thing[0] == "row" and is_word(thing[1], labels)


def led(table, tree, use, facts):
    """The leaf that a tree comes to for a use by facts."""
    check_tree(table, tree)
    check_asked(table, use, facts)
    return way_of(tree, use, facts)[1]


def tests(table, tree, use, facts):
    """The list of the tests that a tree asks of a use by facts, in order."""
    check_tree(table, tree)
    check_asked(table, use, facts)
    return way_of(tree, use, facts)[0]


def way_of(tree, use, facts):
    """The list of the tests that a tree asks of a use by facts, and the leaf that it comes to."""
    asked = []
    while len(tree) == 3:
        test, yes, no = tree
        asked.append(test)
        tree = yes if says_yes(test, use, facts) else no
    return asked, tree


def tree_for(table):
    """A tree that comes to the choice whatever the use and facts, and asks no test twice on a way."""
    check_clear(table)
    many = sum([len(all_parts(row[1])) for row in table.rows])
    if len(table.rows) > MOST_GROWN_ROWS or many > MOST_GROWN_PARTS:
        raise TooMany(MOST_GROWN_ROWS)
    return grown(table.rows)


def wrong_at(table, tree):
    """A pair of a use and facts for which a tree does not come to the choice, or None."""
    check_clear(table)
    check_tree(table, tree)
    near = nearness_of_all(table.rows)
    for use, facts, lot in leaf_cases(table, tree):
        if way_of(tree, use, facts)[1] != choice(table.rows, least(near, lot)):
            return (use, facts)
    return None


def is_wrong_at(table, tree, thing):
    """Whether a thing is a pair of a use and facts for which a tree does not come to the choice."""
    check_clear(table)
    check_tree(table, tree)
    if not is_asked(table, thing):
        return False
    return way_of(tree, thing[0], thing[1])[1] != nearest(table, thing[0], thing[1])


def check_tree(table, tree):
    """Raises NoTree if what was passed for a tree of the table is none."""
    if not is_tree(table, tree):
        raise NoTree()
