"""Demands and facts: what is demanded of the kinds that are put for unknowns, and what holds of kinds."""

from nearestkinds.parts import are_same
from nearestkinds.things import is_integer, is_tuple, is_word, sorts_of_unknowns

MOST_FACTS = 200
MOST_DEEP = 4


def is_facts(book, thing):
    """Whether a thing is a tuple of at most 200 pairs of a claim of the book and a kind without unknowns."""
    return is_tuple(thing, 0, MOST_FACTS) and all([is_fact(book, part) for part in thing])


def is_fact(book, thing):
    """Whether a thing is a pair of a claim of the book and a kind without unknowns."""
    if not is_tuple(thing, 2, 2) or not is_word(thing[0], book.claims):
        return False
    unknowns = sorts_of_unknowns(book, ("kind",), thing[1:])
    return unknowns is not None and len(unknowns) == 0


def is_demand(book, sorts, thing):
    """Whether a thing is a demand about unknowns of sort kind: sorts is a dict from all unknowns to their sorts."""
    todo = [] if thing is None else [(1, thing)]
    while todo:
        deep, part = todo.pop()
        if deep > MOST_DEEP or not is_tuple(part, 3, 3) or type(part[0]) is not str:
            return False
        if part[0] in ("both", "either"):
            todo.extend([(deep + 1, inner) for inner in part[1:]])
        elif part[0] != "claim" or not is_word(part[1], book.claims):
            return False
        elif not is_integer(part[2]) or sorts.get(part[2]) != "kind":
            return False
    return True


def holds(demand, filling, facts):
    """Whether a demand holds of what is put for its unknowns, by facts."""
    done = []
    # From the right, so that both demands within one are done when it comes.
    for part in demand_parts(demand)[::-1]:
        if part is None:
            done.append(True)
        elif part[0] == "claim":
            done.append(part[2] in filling and is_told((part[1], filling[part[2]]), facts))
        else:
            one, other = done.pop(), done.pop()
            done.append(one and other if part[0] == "both" else one or other)
    return done[0]


def neat(demand):
    """The ascending tuple of the least lots of claims that are enough for a demand."""
    done = []
    for part in demand_parts(demand)[::-1]:
        if part is None:
            done.append([()])
        elif part[0] == "claim":
            done.append([(part[1:],)])
        else:
            one, other = done.pop(), done.pop()
            done.append(least_lots(joined(one, other) if part[0] == "both" else one + other))
    return tuple(done[0])


def implied(one, other):
    """Whether the other demand holds wherever the one does, whatever facts hold."""
    return are_enough(neat(one), neat(other))


def demand_parts(demand):
    """The list of a demand and all demands within it, each ahead of those within it, from the left."""
    told = []
    todo = [demand]
    while todo:
        part = todo.pop()
        told.append(part)
        if part is not None and part[0] != "claim":
            todo.extend([part[2], part[1]])
    return told


def claims_within(demand):
    """The list of the pairs of a claim and the number of an unknown that stand in a demand."""
    return [part[1:] for part in demand_parts(demand) if part is not None and part[0] == "claim"]


def is_told(fact, facts):
    """Whether a fact is one of the facts."""
    for name, kind in facts:
        if fact[0] == name and are_same(fact[1], kind):
            return True
    return False


def joined(lots, others):
    """The lots that have all of one of the lots and of one of the others."""
    return [tuple(sorted(set(lot + other))) for lot in lots for other in others]


def least_lots(lots):
    """The lots, ascending, each once, without those that have all of another one."""
    unlike = sorted(set(lots))
    return [lot for lot in unlike if not any([lot != other and has_all(lot, other) for other in unlike])]


def are_enough(lots, others):
    """Whether each of the lots has all of one of the others."""
    return all([any([has_all(lot, other) for other in others]) for lot in lots])


def has_all(lot, other):
    """Whether a lot of claims has all of another one."""
    return all([pair in lot for pair in other])


def called(lots, names):
    """The lots of claims with other unknowns: names is a dict from the numbers of all to these unknowns."""
    return [tuple([(name, names[n][1]) for name, n in lot]) for lot in lots]
