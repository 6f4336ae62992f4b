"""The rows of tables: which things are rows, which row is nearer than which, and which are chosen."""

from nearestkinds.demands import are_enough, called, is_demand, neat
from nearestkinds.parts import all_parts, depth, is_new, is_open
from nearestkinds.patterns import matched
from nearestkinds.things import is_integer, is_name, is_tuple, sorts_of_unknowns

MOST_PARTS = 20
MOST_DEEP = 5
MOST_UNKNOWNS = 20


def is_row(book, sorts, thing):
    """Whether a thing is a triple of a label, patterns of the sorts and a demand about their unknowns."""
    return is_tuple(thing, 3, 3) and is_name(thing[0]) and is_asker(book, sorts, thing[1:], MOST_UNKNOWNS)


def is_asker(book, sorts, pair, unknowns):
    """Whether a pair is a small bundle, with unknowns numbered below so many, and a demand about these."""
    found = sorts_of_unknowns(book, sorts, pair[0])
    return found is not None and is_small(pair[0], unknowns) and is_demand(book, found, pair[1])


def is_small(bundle, unknowns):
    """Whether a bundle is as small as patterns are, without new kinds, its unknowns numbered below so many."""
    parts = all_parts(bundle)
    if len(parts) > MOST_PARTS or depth(bundle) > MOST_DEEP or any([is_new(part) for part in parts]):
        return False
    return all([part[1] < unknowns for part in parts if is_open(part)])


def is_row_number(rows, thing):
    """Whether a thing is the number of one of the rows."""
    return is_integer(thing) and 0 <= thing < len(rows)


def is_at_least_as_near(row, other):
    """Whether a row's patterns are an instance of the other's and, if both are like, its demand implies the other's."""
    names = matched(other[1], row[1])
    if names is None:
        return False
    if matched(row[1], other[1]) is None:
        return True
    return are_enough(neat(row[2]), called(neat(other[2]), names))


def is_nearer(row, other):
    """Whether a row is nearer than the other one."""
    return is_at_least_as_near(row, other) and not is_at_least_as_near(other, row)


def are_twins(row, other):
    """Whether two rows have one label, or like patterns and demands that imply each other."""
    return row[0] == other[0] or is_at_least_as_near(row, other) and is_at_least_as_near(other, row)


def nearness(rows, lot):
    """A dict whose keys are the pairs of numbers out of a lot of which the first one's row is nearer."""
    return {(one, other): True for one in lot for other in lot if is_nearer(rows[one], rows[other])}


def nearness_of_all(rows):
    """The nearness of all the rows."""
    return nearness(rows, list(range(len(rows))))


def least(near, lot):
    """The list of the rows of a lot than which no other one of it is nearer, by their nearness."""
    return [one for one in lot if not any([(other, one) in near for other in lot])]


def choice(rows, lot):
    """The choice that the rows of a lot are than which no other one that meets a use is nearer."""
    labels = tuple([rows[row][0] for row in lot])
    if len(labels) == 0:
        return ("none",)
    return ("row", labels[0]) if len(labels) == 1 else ("many", labels)
