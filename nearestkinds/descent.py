"""Weights that fall with each call of a program, sums of calls that keep them, and loops."""

from nearestkinds.lessening import EarlyRows, check_all_clear
from nearestkinds.measures import call_measures, put, unknowns_of, weight_names
from nearestkinds.parts import all_parts
from nearestkinds.patterns import filled, matched
from nearestkinds.simplex import settled
from nearestkinds.terms import is_call, is_plain, terms_ahead
from nearestkinds.things import is_integer, is_tuple, is_word
from nearestkinds.views import is_wish


def is_weights(program, thing):
    """Whether a thing is weights that fall with each call, whatever the sizes."""
    if type(thing) is not dict or len(thing) != len(program.families):
        return False
    for name, table, _, _ in program.families:
        if name not in thing or not are_weights_of(table.sorts, thing[name]):
            return False
    return all([falls_with(measure, thing) for measure in call_measures(program)])


def are_weights_of(sorts, thing):
    """Whether a thing is a tuple of numbers, a first one and one for each place, 0 for places not of sort kind."""
    if not is_tuple(thing, 1 + len(sorts), 1 + len(sorts)) or not all([is_number(weight) for weight in thing]):
        return False
    return all([sort == "kind" or weight == 0 for sort, weight in zip(sorts, thing[1:])])


def is_number(thing):
    """Whether a thing is an integer from 0 on."""
    return is_integer(thing) and thing >= 0


def falls_with(measure, weights):
    """Whether weights are less for a call than for its row's patterns, whatever the sizes."""
    margins = {}
    for key in measure:
        margins[key] = sum([many * weights[name][place] for (name, place), many in measure[key].items()])
    # Sizes are any numbers from 1 on: the margin is least where all are 1, if it grows with none too.
    return sum(list(margins.values())) > 0 and all([margins[key] >= 0 for key in unknowns_of(measure)])


def is_sum(program, thing):
    """Whether a thing is a sum of calls that keeps all weights."""
    measures = call_measures(program)
    if not is_tuple(thing, len(measures), len(measures)):
        return False
    if not all([are_shares(measure, part) for measure, part in zip(measures, thing)]):
        return False
    if all([p == 0 for p, _ in thing]):
        return False
    totals = {weight: 0 for weight in weight_names(program)}
    for measure, (p, sizes) in zip(measures, thing):
        for key in measure:
            for weight in measure[key]:
                totals[weight] += measure[key][weight] * (p if key is None else sizes[key])
    # The first weights count by the calls alone, and these are to have one sum on both sides.
    return all([totals[weight] == 0 if weight[1] == 0 else totals[weight] <= 0 for weight in totals])


def are_shares(measure, thing):
    """Whether a thing is a pair of a number and a dict of a number, at least as great, for each unknown of a call."""
    if not is_tuple(thing, 2, 2) or not is_number(thing[0]) or type(thing[1]) is not dict:
        return False
    p, sizes = thing
    unknowns = unknowns_of(measure)
    if len(sizes) != len(unknowns):
        return False
    return all([key in sizes and is_integer(sizes[key]) and sizes[key] >= p for key in unknowns])


def descent(program):
    """Weights that fall with each call of a program, or a sum of calls that keeps them."""
    names = weight_names(program)
    measures = call_measures(program)
    columns = columns_of(measures, names)
    told, numbers = settled([column for column, _ in columns], [worth for _, worth in columns], len(names))
    if told == "prices":
        return ("weights", weights_of(program, {weight: number for weight, number in zip(names, numbers)}))
    shares = {columns[each]: number for each, number in zip(columns, numbers)}
    return ("sum", tuple([shares_of(shares, k, measure) for k, measure in enumerate(measures)]))


def columns_of(measures, names):
    """What weights have to keep, as pairs of how often each counts and by how much it is to be greater.

    The dict leads from these pairs to the number of a call and what of it asks: None for the call itself, its sizes
    all 1, or an unknown, that the margin does not grow less with it. What asks the same as an earlier one, or asks
    for nothing, is left out.
    """
    told = {}
    for k, measure in enumerate(measures):
        at_one = {}
        for key in measure:
            for weight in measure[key]:
                put(at_one, None, weight, measure[key][weight])
        told.setdefault((column_of(at_one[None], names), 1), (k, None))
        for key in unknowns_of(measure):
            column = column_of(measure[key], names)
            if min(column) < 0:
                told.setdefault((column, 0), (k, key))
    return told


def column_of(counts, names):
    """How often each weight counts, in order."""
    return tuple([counts.get(weight, 0) for weight in names])


def weights_of(program, numbers):
    """The weights of all families, those that are not told being 0."""
    told = {}
    for name, table, _, _ in program.families:
        told[name] = tuple([numbers.get((name, place), 0) for place in range(1 + len(table.sorts))])
    return told


def shares_of(shares, k, measure):
    """The pair of a sum for a call, by the shares of what it and its unknowns ask."""
    p = shares.get((k, None), 0)
    return (p, {key: p + shares.get((k, key), 0) for key in unknowns_of(measure)})


def is_loop(program, thing):
    """Whether a thing is a loop: each use met of its bundle comes to one met of it again."""
    check_all_clear(program)
    families = {family[0]: family for family in program.families}
    if not is_tuple(thing, 3, 3) or not is_word(thing[0], families):
        return False
    family, bundle, steps = thing
    if not is_wish(families[family][1], (bundle, None)) or type(steps) is not tuple or len(steps) == 0:
        return False
    name, terms, rows = family, bundle, EarlyRows(program)
    for step in steps:
        found = rows.body(name, terms)
        calls = [] if found is None else calls_reached(found[0])
        if not is_integer(step) or not 0 <= step < len(calls):
            return False
        _, name, terms = calls[step]
        if not all([is_plain(part) for part in all_parts(terms)]):
            return False
        terms = filled(terms, found[1])
    return name == family and matched(bundle, terms) is not None


def calls_reached(body):
    """The list of the calls in a body as they are written, without those in the last two terms of a LESS."""
    told, todo = [], [body]
    while todo:
        part = todo.pop()
        if is_call(part):
            told.append(part)
        todo.extend(terms_ahead(part)[::-1])
    return told
