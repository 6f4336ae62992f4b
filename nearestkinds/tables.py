"""Tables of rows with patterns and demands, and the choice of the row that is nearest to a use."""

from nearestkinds.demands import holds, is_facts
from nearestkinds.errors import BadTable, NoFacts, NoRow, NoUse, TooMany
from nearestkinds.patterns import matched
from nearestkinds.rows import are_twins, choice, is_nearer, is_row, is_row_number, least, nearness
from nearestkinds.things import is_sorts, is_tuple, is_use, sort_names
from nearestkinds.ways import row_cases

MOST_ROWS = 10


class Table:
    """Rows with patterns of some sorts of a book, of which the nearest one is chosen for a use."""

    def __init__(self, book, sorts, rows):
        if not is_sorts(sorts, 1, 4, sort_names(book.lists)):
            raise BadTable("sorts")
        if not is_tuple(rows, 0, MOST_ROWS):
            raise BadTable("rows")
        for k, row in enumerate(rows):
            if not is_row(book, sorts, row) or any([are_twins(row, earlier) for earlier in rows[:k]]):
                raise BadTable(k)
        if are_many(book, sorts, rows):
            raise BadTable("many")
        self.book = book
        self.sorts = sorts
        self.rows = rows

    def __eq__(self, other):
        return (isinstance(other, Table) and self.book == other.book
                and self.sorts == other.sorts and self.rows == other.rows)


def are_many(book, sorts, rows):
    """Whether rows have too many meets or cases, or a meet that is too great, for a table."""
    try:
        row_cases(book, sorts, rows)
    except TooMany:
        return True
    return False


def meeting(table, use, facts):
    """The lot of the rows that meet a use by facts."""
    check_asked(table, use, facts)
    return tuple(rows_met(table.rows, use, facts))


def nearest(table, use, facts):
    """The choice: the row that meets a use by facts and is nearer than all others that do, or none, or many."""
    return choice(table.rows, nearest_rows(table, meeting(table, use, facts)))


def nearer(table, one, other):
    """Whether the one row is nearer than the other one."""
    if not is_row_number(table.rows, one) or not is_row_number(table.rows, other):
        raise NoRow()
    return is_nearer(table.rows[one], table.rows[other])


def rows_met(rows, use, facts):
    """The list of the numbers of the rows that meet a use by facts."""
    told = []
    for k, (_, patterns, demand) in enumerate(rows):
        found = matched(patterns, use)
        if found is not None and holds(demand, found, facts):
            told.append(k)
    return told


def nearest_rows(table, lot):
    """The list of the rows of a lot than which no other one of it is nearer."""
    return least(nearness(table.rows, lot), lot)


def check_asked(table, use, facts):
    """Raises the error that is due if what was passed for a use and facts of a table is none."""
    if not is_use(table.book, table.sorts, use):
        raise NoUse()
    if not is_facts(table.book, facts):
        raise NoFacts()


def is_asked(table, thing):
    """Whether a thing is a pair of a use and facts of a table."""
    return is_tuple(thing, 2, 2) and is_use(table.book, table.sorts, thing[0]) and is_facts(table.book, thing[1])
