"""Rooted programs by chance, and slow but plain ways of telling what follows their uses."""

from nearestkinds.clear import unclear
from nearestkinds.errors import BadTable
from nearestkinds.programs import Program
from nearestkinds.tables import Table, nearest
from nearestkinds.things import Book
from tests.slow import match
from tests.slow_programs import all_calls, count_of, put_for

GARDEN = Book(
    (("flag", ("yes", "no")), ("size", ("small", "middle", "large"))),
    (("int", ()), ("ptr", ("kind",)), ("pair", ("kind", "kind")), ("tri", ("kind", "kind", "kind"))),
    ("even",),
)
HEADS = dict(GARDEN.heads)
WORDS = dict(GARDEN.lists)


def family(name, sorts, *rows):
    """A family of the garden: a row is its patterns and its body; labels are a, b, .."""
    one = Table(GARDEN, sorts, tuple(("abcdefghij"[k], row[0], None) for k, row in enumerate(rows)))
    return (name, one, "kind", tuple(row[1] for row in rows))


def garden(*families):
    """A program of the garden."""
    return Program(GARDEN, families)


def slow_standings(told):
    """All standings."""
    found = []
    for name, one, _, _ in told.families:
        ways = [()]
        for sort in one.sorts:
            ways = [way + (word,) for way in ways for word in WORDS[sort]] if sort != "kind" else ways
        found += [(name, way, root) for way in ways for root in (None, *dict(told.book.heads))]
    return found


def standing_use(told, standing):
    """The use of a standing: its family, its words, and what is at its eye."""
    name, words, root = standing
    many = 0 if root is None else len(dict(told.book.heads)[root])
    return (name, words, ("~", 0) if root is None else (root, *[("~", n) for n in range(many)]))


def root_of(use):
    """The root at the eye of a use."""
    return None if use[2][0] == "~" else use[2][0]


def slow_following(told, use):
    """The uses that follow a use, by the choice of its table."""
    name, words, thing = use
    _, one, _, bodies = [each for each in told.families if each[0] == name][0]
    place = one.sorts.index("kind")
    whole = words[:place] + (thing,) + words[place:]
    choice = nearest(one, whole, ())
    if choice[0] == "none":
        return []
    row = [row[0] for row in one.rows].index(choice[1])
    filling = match(one.rows[row][1], whole)
    found = []
    for _, called, terms in all_calls(bodies[row]):
        other = [each[1] for each in told.families if each[0] == called][0].sorts.index("kind")
        terms = tuple(put_for(term, filling) for term in terms)
        found.append((called, terms[:other] + terms[other + 1:], terms[other]))
    return found


def slow_falls(told):
    """A dict from standings to the sets of their falls, by going over all again and again until there are no more."""
    found = {standing: set() for standing in slow_standings(told)}
    first = {standing: slow_following(told, standing_use(told, standing)) for standing in found}

    def reached(use):
        if use[2][0] == "~":
            return {(use[0], use[1], use[2][1])}
        return {end for name, words, part in found[use[0], use[1], use[2][0]]
                for end in reached((name, words, use[2][1 + part]))}

    while True:
        more = {standing: set().union(*map(reached, first[standing])) if standing[2] else set() for standing in found}
        if more == found:
            return found
        found = more


def slow_leads(told):
    """A dict from standings to the sets of those to which one leads, right away and by others."""
    falls = slow_falls(told)
    leads = {}
    for standing in falls:
        here, todo = set(), slow_following(told, standing_use(told, standing))
        while todo:
            name, words, thing = todo.pop()
            if thing[0] == "~":
                if standing[2] is None:
                    here.add((name, words, None))
                continue
            here.add((name, words, thing[0]))
            todo += [(other, there, thing[1 + part]) for other, there, part in falls[name, words, thing[0]]]
        leads[standing] = here
    while True:
        more = {each: leads[each].union(*[leads[other] for other in leads[each]]) for each in leads}
        if more == leads:
            return leads
        leads = more


def slow_ranks(told, thing):
    """Whether a thing is a dict from all standings to pairs of a rank and falls, as it should be."""
    leads, falls = slow_leads(told), slow_falls(told)
    if type(thing) is not dict or set(thing) != set(leads):
        return False
    for each in thing.values():
        if type(each) is not tuple or len(each) != 2 or type(each[0]) is not int or each[0] < 0:
            return False
    return all(repr(thing[each][1]) == repr(tuple(sorted(falls[each])))
               and all(thing[other][0] < thing[each][0] for other in leads[each]) for each in thing)


def slow_steps(told, falls, standing, steps):
    """The use that steps come to from a standing's use, or None."""
    if type(steps) is not tuple or not steps:
        return None
    use = standing_use(told, standing)
    for k, step in enumerate(steps):
        if k and standing[2] is not None and use[2][0] == "~":
            return None
        if type(step) is int:
            uses = slow_following(told, use)
            if not 0 <= step < len(uses):
                return None
            use = uses[step]
        elif (type(step) is tuple and len(step) == 2 and type(step[0]) is str and step[0] == "fall"
              and type(step[1]) is int and 0 <= step[1] < len(falls)):
            of, fall, _ = falls[step[1]]
            if of != (use[0], use[1], root_of(use)):
                return None
            use = (fall[0], fall[1], use[2][1 + fall[2]])
        else:
            return None
    return use


def slow_ending(told, thing):
    """Whether a thing is one that ends may tell, by real uses."""
    if type(thing) is not tuple or not thing or type(thing[0]) is not str:
        return False
    if thing[0] == "ends":
        return len(thing) == 2 and slow_ranks(told, thing[1])
    standings = slow_standings(told)
    if thing[0] != "goes on" or len(thing) != 4 or type(thing[1]) is not tuple or thing[2] not in standings:
        return False
    for k, each in enumerate(thing[1]):
        if type(each) is not tuple or len(each) != 3 or each[0] not in standings or each[0][2] is None:
            return False
        use = slow_steps(told, thing[1][:k], each[0], each[2])
        if use is None or use[2][0] != "~" or repr((use[0], use[1], use[2][1])) != repr(each[1]):
            return False
    use = slow_steps(told, thing[1], thing[2], thing[3])
    if use is None or use[:2] != thing[2][:2]:
        return False
    return use[2] == ("~", 0) if thing[2][2] is None else root_of(use) == thing[2][2]


def some_eye(chance, unknowns, deep):
    """A term of sort kind without calls."""
    if unknowns and chance.random() < (0.9 if deep < 2 else 0.6):
        return ("?", chance.choice(unknowns))
    if deep < 2:
        return ("int",)
    name, sorts = chance.choice(GARDEN.heads)
    return (name,) + tuple(some_eye(chance, unknowns, deep - 1) for _ in sorts)


def some_body(chance, row, signatures, calls):
    """A body of so many calls at most: row tells the unknowns by sorts."""
    made = []
    for _ in range(chance.randrange(calls + 1)):
        name = chance.choice(sorted(signatures))
        terms = []
        for sort in signatures[name]:
            if sort == "kind":
                terms.append(some_eye(chance, row.get("kind", []), chance.choice([1, 1, 2, 3])))
            elif row.get(sort) and chance.random() < 0.4:
                terms.append(("?", chance.choice(row[sort])))
            else:
                terms.append(chance.choice(WORDS[sort]))
        made.append(("!", name, tuple(terms)))
    body = some_eye(chance, row.get("kind", []), 1)
    for each in made:
        body = chance.choice([("pair", each, body), ("pair", body, each), ("tri", body, each, ("int",))])
    return made[0] if len(made) == 1 and chance.random() < 0.5 else body


SIGNATURES = [("kind",), ("kind",), ("flag", "kind"), ("kind", "size"), ("flag", "kind", "flag")]


def some_row(chance, sorts):
    """The patterns of a row, and its unknowns by sorts."""
    things, found, n = [], {}, 0
    for sort in sorts:
        if sort == "kind" and chance.random() < 0.75:
            name, inner = chance.choice(GARDEN.heads)
            things.append((name,) + tuple(("?", n + k) for k in range(len(inner))))
            found["kind"] = [n + k for k in range(len(inner))]
            n += len(inner)
        elif sort == "kind" or chance.random() < 0.4:
            things.append(("?", n))
            found.setdefault(sort, []).append(n)
            n += 1
        else:
            things.append(chance.choice(WORDS[sort]))
    return tuple(things), found


def some_garden(chance, most, calls=2):
    """A rooted program of at most so many families."""
    signatures = {"fgh"[k]: chance.choice(SIGNATURES) for k in range(chance.randrange(1, most + 1))}
    families = []
    for name, sorts in signatures.items():
        rows = []
        for _ in range(chance.randrange(1, 6)):
            patterns, found = some_row(chance, sorts)
            more = rows + [(("abcdefgh"[len(rows)], patterns, None), found)]
            try:
                if unclear(Table(GARDEN, sorts, tuple(row for row, _ in more))) is None:
                    rows = more
            except BadTable:
                continue
        bodies = []
        for row, found in rows:
            # What calls with the whole thing at its eye mostly goes on at once, so this is to be seldom.
            many = calls if row[1][sorts.index("kind")][0] != "?" or chance.random() < 0.2 else 0
            body = some_body(chance, found, signatures, many)
            while count_of(body) > 60:
                body = some_body(chance, found, signatures, many)
            bodies.append(body)
        families.append((name, Table(GARDEN, sorts, tuple(row for row, _ in rows)), "kind", tuple(bodies)))
    return Program(GARDEN, tuple(families))
