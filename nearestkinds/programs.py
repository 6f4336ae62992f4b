"""Programs: families of tables whose rows have bodies, and what their uses come to."""

from nearestkinds.demands import is_facts
from nearestkinds.errors import BadProgram, NoFacts, NoFamily, NoMany, NoUse, TooGreat, Unclear, Unmet
from nearestkinds.parts import are_same
from nearestkinds.reckoning import Reckoner, key_of
from nearestkinds.tables import Table
from nearestkinds.terms import sorts_in_term
from nearestkinds.things import is_integer, is_name, is_tuple, is_use, is_word, sort_names, sorts_of_unknowns

MOST_FAMILIES = 8
MOST_MANY = 2000


class Program:
    """Families of a book: tables, the sorts of their worths, and a body for each row."""

    def __init__(self, book, families):
        if not is_tuple(families, 0, MOST_FAMILIES):
            raise BadProgram("families")
        for k, family in enumerate(families):
            if not is_family(book, family) or any([family[0] == earlier[0] for earlier in families[:k]]):
                raise BadProgram(k)
        signatures = signatures_of(families)
        for k, family in enumerate(families):
            if not are_bodies(book, signatures, family):
                raise BadProgram(k)
        self.book = book
        self.families = families

    def __eq__(self, other):
        return isinstance(other, Program) and self.book == other.book and self.families == other.families


def is_family(book, thing):
    """Whether a thing is a family of a book, whatever stands in its bodies."""
    if not is_tuple(thing, 4, 4) or not is_name(thing[0]):
        return False
    _, table, sort, bodies = thing
    if type(table) is not Table or not table.book == book or not is_word(sort, sort_names(book.lists)):
        return False
    return is_tuple(bodies, len(table.rows), len(table.rows))


def signatures_of(families):
    """A dict from the names of families to pairs: the sorts of their tables, and the sort of their worths."""
    return {name: (table.sorts, sort) for name, table, sort, _ in families}


def are_bodies(book, signatures, family):
    """Whether the bodies of a family are terms of its sort, of the unknowns of its rows."""
    _, table, sort, bodies = family
    for row, body in zip(table.rows, bodies):
        found = sorts_in_term(book, signatures, sort, body)
        known = sorts_of_unknowns(book, table.sorts, row[1])
        if found is None or any([known.get(n) != found[n] for n in found]):
            return False
    return True


def worth(program, family, use, facts, most):
    """What a use of a family comes to by facts, for which at most so many unlike uses are asked."""
    return reckoned(program, family, use, facts, most).worths[key_of(family, use)]


def uses(program, family, use, facts, most):
    """The list of the pairs of a family and a use that are asked, as they are first asked."""
    return list(reckoned(program, family, use, facts, most).asked.values())


def record(program, family, use, facts, most):
    """A record of just the uses that are asked: triples of a family, a use and its worth."""
    reckoner = reckoned(program, family, use, facts, most)
    # Worths are kept as they are come to, so that each use stands behind all that it asks.
    return tuple([(*reckoner.asked[key], reckoner.worths[key]) for key in reckoner.worths])


def reckoned(program, family, use, facts, most):
    """The reckoner that has reckoned what a use comes to."""
    check_use(program, family, use, facts)
    check_many(most)
    reckoner = Reckoner(program, facts)
    reckoner.reckon_all(family, use, most)
    return reckoner


def is_record(program, family, use, facts, thing):
    """Whether a thing is a record of a use by facts."""
    check_use(program, family, use, facts)
    if type(thing) is not tuple or len(thing) == 0:
        return False
    families = {each[0]: each for each in program.families}
    reckoner, worths = Reckoner(program, facts), {}
    for part in thing:
        if not is_told(program.book, families, part):
            return False
        key = key_of(part[0], part[1])
        if key in worths or not comes_to(reckoner, worths, part):
            return False
        worths[key] = part[2]
    return key_of(thing[-1][0], thing[-1][1]) == key_of(family, use)


def is_told(book, families, thing):
    """Whether a thing is a triple of a family, a use of it, and a thing of the sort of its worth."""
    if not is_tuple(thing, 3, 3) or not is_word(thing[0], families):
        return False
    _, table, sort, _ = families[thing[0]]
    return is_use(book, table.sorts, thing[1]) and is_use(book, (sort,), thing[2:])


def comes_to(reckoner, worths, triple):
    """Whether a use comes to what is told of it if others come to their worths, and no more are asked."""
    try:
        work = reckoner.work(triple[0], triple[1])
        wanted = work.reckon(worths)
    except (TooGreat, Unclear, Unmet):
        return False
    return wanted is None and are_same(work.outcome(), triple[2])


def check_use(program, family, use, facts):
    """Raises the error that is due if what was passed for a family, a use or facts of a program is none."""
    check_family(program, family)
    if not is_use(program.book, table_of(program, family).sorts, use):
        raise NoUse()
    if not is_facts(program.book, facts):
        raise NoFacts()


def check_family(program, family):
    """Raises NoFamily if what was passed for a family's name is none."""
    if not is_word(family, [each[0] for each in program.families]):
        raise NoFamily()


def check_many(most):
    """Raises NoMany if what was passed for the most that may be is none."""
    if not is_integer(most) or not 1 <= most <= MOST_MANY:
        raise NoMany()


def table_of(program, family):
    """The table of a family of a program."""
    return [each[1] for each in program.families if each[0] == family][0]
