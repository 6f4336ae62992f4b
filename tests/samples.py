"""Books, things and slow but plain ways of reckoning that several tests share."""

import sys

from nearestkinds.errors import BadBook
from nearestkinds.things import Book

BOOK = Book(
    (("flag", ("yes", "no")), ("size", ("small", "middle", "large"))),
    (("int", ()), ("ptr", ("kind",)), ("pair", ("kind", "kind")), ("array", ("kind", "number")),
     ("mode", ("flag", "kind", "size"))),
    ("small",),
)

# One object of many built-in types, some of them unhashable, and some of this package.
STRANGE = [
    None, True, False, 0, 1, -1, 10 ** 30, "", "int", "yes", "kind", "?", "~", "Z", b"int", b"?", [], ["int"],
    [("int",)], {}, {"int": 1}, {0: ("int",)}, (), ("?",), ("~",), ("?", "0"), ("?", 0, 0), ("~", 0, 0), ("?", True),
    ("~", False), ("?", -1), ("~", -1), ("?", 1000), ("int", ()), ("ptr",), ("nohead",), (b"int",), ("int", 0),
    (["int"],), ({},), ((),), (("int",),), (None,), (0,), (("?", 0), 0), range(3), slice(1, 2), bytearray(b"int"),
    memoryview(b"int"), iter([1]), int, len, object(), NotImplemented, Ellipsis, ValueError("int"),
    BadBook("lists"), BadBook, Book, BOOK, (BOOK,), ("ptr", BOOK), ("?", BOOK), ("?", [0]), ("?", None),
    ("!", "int", ()), ("+", 1, 2), "a" * 5000,
]


def shallow(call, *told):
    """What a call tells that may go only some fifty calls deep."""
    depth = 0
    frame = sys._getframe()
    while frame is not None:
        depth, frame = depth + 1, frame.f_back
    kept = sys.getrecursionlimit()
    sys.setrecursionlimit(depth + 50)
    try:
        return call(*told)
    finally:
        sys.setrecursionlimit(kept)


def chain(many, end):
    """A thing with so many pointers around its end."""
    for _ in range(many):
        end = ("ptr", end)
    return end


def row(things):
    """All things, from the left, in pairs of pairs, so that one kind that is not deep holds them."""
    layer = list(things)
    while len(layer) > 1:
        rest = layer[len(layer) // 2 * 2:]
        layer = [("pair", layer[k], layer[k + 1]) for k in range(0, len(layer) - 1, 2)] + rest
    return layer[0]


def wide(many):
    """A kind of just so many parts, an odd number, that is not deep."""
    return row([("int",)] * (many // 2 + 1))


def count(thing):
    """How many parts an open thing has."""
    if isinstance(thing, tuple) and thing[0] not in ("?", "~"):
        return 1 + sum(count(part) for part in thing[1:])
    return 1


def renamed(thing, names):
    """An open thing with other unknowns: names is a dict from all that is renamed to open things."""
    if isinstance(thing, tuple) and thing[0] == "?":
        return names.get(thing[1], thing)
    if isinstance(thing, tuple) and thing[0] != "~":
        return (thing[0],) + tuple(renamed(part, names) for part in thing[1:])
    return thing


def slow_bundle(book, sorts, thing):
    """Whether a thing is a bundle, by calls within calls, as the words say."""
    found = {}

    def fits(sort, part):
        if type(part) is tuple and len(part) == 2 and part[0] in ("?", "~"):
            if type(part[1]) is not int or part[1] < 0:
                return False
            if part[0] == "~":
                return sort == "kind"
            return part[1] < 1000 and found.setdefault(part[1], sort) == sort
        if sort == "number":
            return type(part) is int
        if sort != "kind":
            return type(part) is str and part in dict(book.lists)[sort]
        if type(part) is not tuple or not part or type(part[0]) is not str:
            return False
        inner = dict(book.heads).get(part[0])
        return inner is not None and fit(inner, part[1:])

    def fit(inner, things):
        return type(things) is tuple and len(things) == len(inner) and all(map(fits, inner, things))

    return fit(sorts, thing)


def slow_match(thing, other, found):
    """Whether an open thing becomes another one by what is found, and more that is put into it."""
    if isinstance(thing, tuple) and thing[0] == "?":
        return found.setdefault(thing[1], other) == other
    if isinstance(thing, tuple) and thing[0] != "~" and isinstance(other, tuple):
        return (thing[0] == other[0] and len(thing) == len(other)
                and all(slow_match(part, of, found) for part, of in zip(thing[1:], other[1:])))
    return thing == other


def is_instance(one, other):
    """Whether a bundle is an instance of another one."""
    found = {}
    return all([slow_match(thing, part, found) for thing, part in zip(other, one)])


def slow_plain(bundle):
    """The plain bundle, by calls within calls."""
    names = {}

    def number(thing):
        if isinstance(thing, tuple) and thing[0] == "?":
            return names.setdefault(thing[1], ("?", len(names)))
        if isinstance(thing, tuple) and thing[0] != "~":
            return (thing[0],) + tuple([number(part) for part in thing[1:]])
        return thing

    return tuple([number(thing) for thing in bundle])


def slow_meet(one, other):
    """The meet, of any size, by putting one thing after another for an unknown."""
    apart = tuple(renamed(thing, {n: ("?", n + 1000) for n in range(1000)}) for thing in other)
    given = {}

    def seen(thing):
        while isinstance(thing, tuple) and thing[0] == "?" and thing[1] in given:
            thing = given[thing[1]]
        return thing

    def written(thing):
        thing = seen(thing)
        if isinstance(thing, tuple) and thing[0] not in ("?", "~"):
            return (thing[0],) + tuple(written(part) for part in thing[1:])
        return thing

    def stands(n, thing):
        thing = seen(thing)
        if isinstance(thing, tuple) and thing[0] not in ("?", "~"):
            return any(stands(n, part) for part in thing[1:])
        return thing == ("?", n)

    def united(thing, part):
        thing, part = seen(thing), seen(part)
        if thing == part:
            return True
        for here, there in ((thing, part), (part, thing)):
            if isinstance(here, tuple) and here[0] == "?":
                if stands(here[1], there):
                    return False
                given[here[1]] = there
                return True
        if not isinstance(thing, tuple) or not isinstance(part, tuple) or thing[0] == "~" or part[0] == "~":
            return False
        return thing[0] == part[0] and all(united(a, b) for a, b in zip(thing[1:], part[1:]))

    if not all(united(thing, part) for thing, part in zip(one, apart)):
        return None
    return slow_plain(tuple(written(thing) for thing in one))


def slow_common(one, other):
    """What two bundles have in common, by calls within calls."""
    names = {}

    def shared(thing, part):
        tuples = isinstance(thing, tuple) and isinstance(part, tuple)
        if tuples and thing[0] == part[0] and thing[0] not in ("?", "~"):
            return (thing[0],) + tuple([shared(a, b) for a, b in zip(thing[1:], part[1:])])
        if thing == part and not (tuples and thing[0] == "?"):
            return thing
        return names.setdefault((thing, part), ("?", len(names)))

    return tuple([shared(thing, part) for thing, part in zip(one, other)])


def random_thing(chance, sort, deep, unknowns):
    """An open thing of a sort, at most so deep: unknowns is how many of each sort may stand in it."""
    first = {"kind": 0, "number": 100, "flag": 200, "size": 300}[sort]
    if chance.random() < 0.3 and unknowns:
        return ("?", first + chance.randrange(unknowns))
    if sort == "number":
        return chance.randrange(-1, 2)
    if sort != "kind":
        return chance.choice(dict(BOOK.lists)[sort])
    if deep < 2:
        return chance.choice([("int",), ("~", 0), ("~", 1)])
    name, sorts = chance.choice(BOOK.heads)
    return (name,) + tuple(random_thing(chance, inner, deep - 1, unknowns) for inner in sorts)


def random_sorts(chance):
    """One to four sorts, the most of them kinds."""
    sorts = ["kind", "kind", "kind", "number", "flag", "size"]
    return tuple(chance.choice(sorts) for _ in range(chance.randrange(1, 5)))


def random_bundle(chance, sorts, deep, unknowns):
    """A bundle of sorts, at most so deep."""
    return tuple(random_thing(chance, sort, deep, unknowns) for sort in sorts)
