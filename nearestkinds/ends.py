"""Whether every use of a rooted program is finite: ranks that fall, or a use that comes to its like again."""

from nearestkinds.errors import NoStanding
from nearestkinds.falling import Falling
from nearestkinds.parts import is_open
from nearestkinds.patterns import filled
from nearestkinds.roots import Roots, check_rooted
from nearestkinds.things import is_integer, is_tuple, is_word


def falls(program, standing):
    """The ascending list of the falls of a standing."""
    check_rooted(program)
    roots = Roots(program)
    if not roots.is_standing(standing):
        raise NoStanding()
    return sorted(Falling(roots, [standing]).falls[standing])


def ends(program):
    """The ranks and falls of all standings, or a standing whose use goes on for ever, and the steps of this."""
    check_rooted(program)
    roots = Roots(program)
    falling = Falling(roots, roots.standings())
    ranks = ranked(falling.leads)
    if len(ranks) == len(falling.leads):
        return ("ends", {each: (ranks[each], tuple(sorted(falling.falls[each]))) for each in ranks})
    standing, steps = circle(falling.leads, ranks)
    return ("goes on",) + needed(falling.told, standing, steps)


def ranked(leads):
    """A dict from standings to ranks greater than those of all to which one leads, for all that can have one."""
    ranks, many, behind = {}, {}, {standing: [] for standing in leads}
    for standing in leads:
        many[standing] = len(leads[standing])
        for other in leads[standing]:
            behind[other].append(standing)
    todo = [standing for standing in leads if many[standing] == 0]
    while todo:
        standing = todo.pop()
        ranks[standing] = 1 + max([ranks[other] for other in leads[standing]], default=-1)
        for other in behind[standing]:
            many[other] -= 1
            if many[other] == 0:
                todo.append(other)
    return ranks


def circle(leads, ranks):
    """A standing without a rank that leads to itself, and the steps by which it does."""
    # A standing without a rank leads to another one without, so the way comes to one that it has been at.
    standing = [each for each in leads if each not in ranks][0]
    way, places = [], {}
    while standing not in places:
        places[standing] = len(way)
        way.append(standing)
        standing = [other for other in leads[standing] if other not in ranks][0]
    round_way = way[places[standing]:] + [standing]
    return standing, [step for one, other in zip(round_way, round_way[1:]) for step in leads[one][other]]


def needed(told, standing, steps):
    """What goes on as it is told: just the falls by which the steps go, the standing, and the steps."""
    wanted = {step[1]: True for step in steps if not is_integer(step)}
    for n in range(len(told) - 1, -1, -1):
        if n in wanted:
            wanted.update({step[1]: True for step in told[n][2] if not is_integer(step)})
    places = {n: k for k, n in enumerate(sorted(wanted))}
    kept = [(told[n][0], told[n][1], steps_by(told[n][2], places)) for n in places]
    return tuple(kept), standing, steps_by(steps, places)


def steps_by(steps, places):
    """The tuple of steps with other numbers of falls."""
    return tuple([step if is_integer(step) else ("fall", places[step[1]]) for step in steps])


def is_ending(program, thing):
    """Whether a thing tells that every use is finite, or one that is not, as ends does."""
    check_rooted(program)
    if type(thing) is not tuple or len(thing) == 0 or type(thing[0]) is not str:
        return False
    if thing[0] == "ends":
        return len(thing) == 2 and are_ranks(Roots(program), thing[1])
    return thing[0] == "goes on" and len(thing) == 4 and goes_on(Roots(program), thing[1], thing[2], thing[3])


def are_ranks(roots, thing):
    """Whether a thing is a dict from all standings to pairs of a rank and the falls."""
    standings = roots.standings()
    if type(thing) is not dict or len(thing) != len(standings):
        return False
    if not all([standing in thing and is_ranking(thing[standing]) for standing in standings]):
        return False
    falling = Falling(roots, standings)
    for standing in standings:
        rank, told = thing[standing]
        if not is_alike(tuple(sorted(falling.falls[standing])), told):
            return False
        if not all([thing[other][0] < rank for other in falling.leads[standing]]):
            return False
    return True


def is_ranking(thing):
    """Whether a thing is a pair of a number and something else."""
    return is_tuple(thing, 2, 2) and is_integer(thing[0]) and thing[0] >= 0


def is_alike(right, thing):
    """Whether a thing is equal to what is right, strings and integers in tuples, and of its kind throughout."""
    todo = [(right, thing)]
    while todo:
        one, other = todo.pop()
        if type(one) is tuple:
            if not is_tuple(other, len(one), len(one)):
                return False
            todo.extend(list(zip(one, other)))
        elif type(one) is str:
            if type(other) is not str or one != other:
                return False
        elif not is_integer(other) or one != other:
            return False
    return True


def goes_on(roots, told, standing, steps):
    """Whether falls that are told are right, and steps go by them from a standing's use to one like it."""
    if type(told) is not tuple or not roots.is_standing(standing):
        return False
    for k, part in enumerate(told):
        if not is_tuple(part, 3, 3) or not is_fall_told(roots, told[:k], part):
            return False
    use = use_behind(roots, told, standing, steps)
    if use is None or use[:2] != standing[:2]:
        return False
    return root_of(use[2]) == standing[2]


def is_fall_told(roots, told, thing):
    """Whether a triple tells a standing, a fall of it, and steps to it by falls told earlier."""
    standing, fall, steps = thing
    if not roots.is_standing(standing) or standing[2] is None:
        return False
    use = use_behind(roots, told, standing, steps)
    return use is not None and is_open(use[2]) and is_alike((use[0], use[1], use[2][1]), fall)


def use_behind(roots, told, standing, steps):
    """The use that steps come to from a standing's use, or None if there are no such steps."""
    if type(steps) is not tuple or len(steps) == 0:
        return None
    use = (standing[0], standing[1], roots.eye(standing[2]))
    for k, step in enumerate(steps):
        # Of a root that is a head, a new kind alone at the eye is the end.
        if k > 0 and standing[2] is not None and is_open(use[2]):
            return None
        use = use_at_step(roots, told, use, step)
        if use is None:
            return None
    return use


def use_at_step(roots, told, use, step):
    """The use that a step goes to from another one, or None if there is no such step."""
    family, words, thing = use
    standing = (family, words, root_of(thing))
    if is_integer(step):
        uses = roots.following(standing)
        if not 0 <= step < len(uses):
            return None
        family, words, eye = uses[step]
        # What a new kind has become is the whole thing, what the things within a root have, those within it.
        things = thing[1:] if standing[2] is not None else (thing,)
        return (family, words, filled((eye,), dict(enumerate(things)))[0])
    if not is_tuple(step, 2, 2) or not is_word(step[0], ("fall",)) or not is_integer(step[1]):
        return None
    if not 0 <= step[1] < len(told) or told[step[1]][0] != standing:
        return None
    family, words, part = told[step[1]][1]
    return (family, words, thing[1 + part])


def root_of(thing):
    """The root of what stands at an eye: the name of a head, or None for a new kind."""
    return None if is_open(thing) else thing[0]
