"""The parts of bundles and terms, one by one: bundles may be deeper than calls within calls can go."""


def all_parts(bundle):
    """The list of all parts of a bundle as its text has them: each ahead of those within it, from the left."""
    told = []
    todo = list(bundle[::-1])
    while todo:
        part = todo.pop()
        told.append(part)
        todo.extend(things_within(part)[::-1])
    return told


def built(parts, filling):
    """The bundle with these parts, as all_parts tells them, in which unknowns have given way by a filling."""
    done = []
    # From the right, so that the things within a part are done, the first one last, when the part comes.
    for part in parts[::-1]:
        if is_open(part):
            done.append(filling.get(part[1], part))
        else:
            done.append(headed(part, taken(done, len(things_within(part)))))
    return tuple(done[::-1])


def things_within(part):
    """The things right within a part, from the first one on: those of a call are its terms."""
    if type(part) is not tuple or part[0] in ("?", "~"):
        return ()
    return part[2] if part[0] == "!" else part[1:]


def is_open(part):
    """Whether a part of a bundle is an unknown."""
    return type(part) is tuple and part[0] == "?"


def root(part):
    """What a part is but for the things within it: parts are equal if their roots and these things are."""
    if type(part) is not tuple or part[0] in ("?", "~"):
        return part
    if part[0] == "!":
        return ("!", part[1], len(part[2]))
    return (part[0], len(part) - 1)


def headed(part, things):
    """The open thing or term of the root of a part with these things within it."""
    if len(things) == 0:
        return part
    if part[0] == "!":
        return ("!", part[1], tuple(things))
    return (part[0], *things)


def taken(stack, many):
    """Takes so many off the end of a list: the list of them, the last one first."""
    cut = len(stack) - many
    things = stack[cut:]
    del stack[cut:]
    return things[::-1]


def are_same(one, other):
    """Whether two open things are equal."""
    todo = [(one, other)]
    while todo:
        part, thing = todo.pop()
        if root(part) != root(thing):
            return False
        todo.extend(list(zip(things_within(part), things_within(thing))))
    return True


def depth(bundle):
    """How deep a bundle is: as deep as its deepest thing."""
    deepest = 0
    todo = [(1, thing) for thing in bundle]
    while todo:
        deep, part = todo.pop()
        deepest = max(deepest, deep)
        todo.extend([(deep + 1, inner) for inner in things_within(part)])
    return deepest


def is_new(part):
    """Whether a part of a bundle is a new kind."""
    return type(part) is tuple and part[0] == "~"
