"""Whether every use of a table has one nearest row, which rows it lacks, and where each row is chosen."""

from nearestkinds.cases import meets, table_cases
from nearestkinds.errors import NoRow
from nearestkinds.patterns import plain
from nearestkinds.rows import is_row_number, least, nearness_of_all
from nearestkinds.tables import is_asked, nearest
from nearestkinds.ways import unknown_use
from nearestkinds.writing import written


def unclear(table):
    """A pair of a use and facts whose choice is many, or None."""
    for use, facts, rows in chosen_cases(table):
        if len(rows) > 1:
            return (use, facts)
    return None


def is_unclear(table, thing):
    """Whether a thing is a pair of a use and facts whose choice is many."""
    return is_asked(table, thing) and nearest(table, thing[0], thing[1])[0] == "many"


def missing(table):
    """The list of the meets of two rows or more that are like no row's patterns, ascending by their texts."""
    # That of unknowns alone is no meet of two rows, unless it is like the patterns of both.
    texts = {written(plain(row[1])): True for row in table.rows}
    texts[written(unknown_use(table.sorts))] = True
    return [bundle for bundle in meets(table) if written(bundle) not in texts]


def place_of(table, row):
    """A pair of a use and facts whose choice is this row, or None."""
    check_row(table, row)
    for use, facts, rows in chosen_cases(table):
        if rows == [row]:
            return (use, facts)
    return None


def is_place(table, row, thing):
    """Whether a thing is a pair of a use and facts whose choice is this row."""
    check_row(table, row)
    return is_asked(table, thing) and nearest(table, thing[0], thing[1]) == ("row", table.rows[row][0])


def dead(table):
    """The lot of the rows that are chosen nowhere."""
    alive = {case[2][0]: True for case in chosen_cases(table) if len(case[2]) == 1}
    return tuple([row for row in range(len(table.rows)) if row not in alive])


def chosen_cases(table):
    """The list of the cases of a table: triples of the use, the facts, and the rows of the choice."""
    near = nearness_of_all(table.rows)
    return [(use, facts, least(near, lot)) for use, facts, lot in table_cases(table)]


def check_row(table, row):
    """Raises NoRow if what was passed for the number of a row is none."""
    if not is_row_number(table.rows, row):
        raise NoRow()
