"""The calls of a program, and what the weights of patterns and of terms are by the sizes of what stands in them."""

from nearestkinds.parts import is_open
from nearestkinds.terms import calls_in, is_call, is_less


def call_measures(program):
    """For each call of a program its measure: by how much the weight of the row's patterns is greater than its own.

    A measure is a dict from what has a size of its own, and None for the sizes that are told, to dicts from weights,
    pairs of a family and a place among its weights, to how often these count there.
    """
    tables = {name: table for name, table, _, _ in program.families}
    told = []
    for name, table, _, bodies in program.families:
        for row, body in zip(table.rows, bodies):
            for call in calls_in(body):
                told.append(call_measure(program.book, tables, name, row[1], call))
    return told


def call_measure(book, tables, name, patterns, call):
    """The measure of one call in the body of a row with these patterns."""
    _, called, terms = call
    measure = {}
    put(measure, None, (name, 0), 1)
    put(measure, None, (called, 0), -1)
    for place, key in sized_within(book, tables[name].sorts, patterns):
        put(measure, key, (name, 1 + place), 1)
    for place, key in sized_within(book, tables[called].sorts, terms):
        put(measure, key, (called, 1 + place), -1)
    return measure


def put(measure, key, weight, many):
    """Lets a weight count so many times more often for what has a size."""
    counts = measure.setdefault(key, {})
    counts[weight] = counts.get(weight, 0) + many


def sized_within(book, sorts, things):
    """All that adds to the sizes of patterns or of a call's terms: pairs of a place of these and of what it is.

    This is None for a head, the number of an unknown, and -1, -2, .. for a call or a LESS within the terms.
    """
    heads, told, many = dict(book.heads), [], 0
    todo = [(place, thing) for place, thing in enumerate(things) if sorts[place] == "kind"][::-1]
    while todo:
        place, part = todo.pop()
        if is_open(part):
            told.append((place, part[1]))
        elif is_call(part) or is_less(part):
            many += 1
            told.append((place, -many))
        else:
            told.append((place, None))
            inner = [thing for sort, thing in zip(heads[part[0]], part[1:]) if sort == "kind"]
            todo.extend([(place, thing) for thing in inner[::-1]])
    return told


def unknowns_of(measure):
    """The list of what has a size of its own."""
    return [key for key in measure if key is not None]


def weight_names(program):
    """The list of all weights that may be other than 0."""
    told = []
    for name, table, _, _ in program.families:
        told.append((name, 0))
        told.extend([(name, 1 + place) for place, sort in enumerate(table.sorts) if sort == "kind"])
    return told
