"""Bundles and their instances: filling, matching, and what two bundles have in common."""

from nearestkinds.errors import TooMany
from nearestkinds.parts import all_parts, are_same, built, is_open, root, things_within
from nearestkinds.webs import Web

MOST_PARTS = 200


def filled(bundle, filling):
    """The bundle in which the unknowns of numbers in the filling have given way, all at once."""
    return built(all_parts(bundle), filling)


def matched(bundle, other):
    """The filling of just the unknowns of the bundle by which it becomes the other one, or None."""
    found = {}
    todo = list(zip(bundle, other))
    while todo:
        part, thing = todo.pop()
        if is_open(part):
            if part[1] not in found:
                found[part[1]] = thing
            elif not are_same(found[part[1]], thing):
                return None
        elif root(part) != root(thing):
            return None
        else:
            todo.extend(list(zip(things_within(part), things_within(thing))))
    return found


def plain(bundle):
    """The bundle like this one whose unknowns are numbered from 0 on as they first come."""
    parts = all_parts(bundle)
    numbers = {}
    for part in parts:
        if is_open(part):
            numbers.setdefault(part[1], ("?", len(numbers)))
    return built(parts, numbers)


def meet(one, other):
    """The plain bundle whose instances are those of both, or None if there are none."""
    web = Web()
    knots = web.put(one)
    # That there is no meet is told ahead of its being too great, so nothing is written out until it is sure.
    if not web.unite(list(zip(knots, web.put(other)))) or not web.is_finite(knots):
        return None
    return built(united_parts(web, knots, MOST_PARTS), {})


def united_parts(web, knots, most):
    """All parts of the plain bundle that these knots stand for."""
    told = []
    unknowns = {}
    todo = knots[::-1]
    while todo:
        high = web.top(todo.pop())
        part = web.parts[high]
        told.append(unknowns.setdefault(high, ("?", len(unknowns))) if is_open(part) else part)
        if len(told) > most:
            raise TooMany(most)
        todo.extend(web.inner[high][::-1])
    return told


def common(one, other):
    """The plain bundle of which both are instances and that has all else that they have in common."""
    web = Web()
    knots = web.put(one)
    return built(shared_parts(web, list(zip(knots, web.put(other)))), {})


def shared_parts(web, pairs):
    """All parts of the plain bundle that has what both knots of each pair share, an unknown for each unlike pair."""
    told = []
    unknowns = {}
    todo = pairs[::-1]
    while todo:
        pair = todo.pop()
        part, thing = web.parts[pair[0]], web.parts[pair[1]]
        # Two unknowns are unlike even if they have one number; an unknown's root is no other thing's.
        if is_open(part) or root(part) != root(thing):
            told.append(unknowns.setdefault(pair, ("?", len(unknowns))))
        else:
            told.append(part)
            todo.extend(list(zip(web.inner[pair[0]], web.inner[pair[1]]))[::-1])
    return told
