"""Programs by chance, and slow but plain ways of reckoning with programs that several tests share."""

from nearestkinds.errors import BadTable
from nearestkinds.programs import Program
from nearestkinds.tables import Table
from tests.slow import DESK, INT, match, slow_choice, slow_text, some_clear, some_table, sorts_within, top

SIGNS = {"+": lambda one, other: one + other, "-": lambda one, other: one - other, "*": lambda one, other: one * other}


def call(name, *terms):
    return ("!", name, terms)


def plus(one, other):
    return ("+", one, other)


def minus(one, other):
    return ("-", one, other)


def times(one, other):
    return ("*", one, other)


def less(one, other, yes, no):
    return ("<", one, other, yes, no)


def family(name, sorts, sort, *rows):
    """A family of the desk: a row is its patterns and its body, or these and its demand between; labels are a, b, .."""
    told = [row if len(row) == 3 else (row[0], None, row[1]) for row in rows]
    one = Table(DESK, sorts, tuple(("abcdefghij"[k], *row[:2]) for k, row in enumerate(told)))
    return (name, one, sort, tuple(row[2] for row in told))


def program(*families):
    """A program of the desk."""
    return Program(DESK, families)


class Stop(Exception):
    """What a slow reckoning stops by: the words tell what an error would."""


def parts_of(term):
    """The terms right within a term."""
    if not isinstance(term, tuple) or term[0] in ("?", "~"):
        return ()
    return term[2] if term[0] == "!" else term[1:]


def count_of(term):
    """How many parts a term has."""
    return 1 + sum(map(count_of, parts_of(term)))


def depth_of(term):
    """How deep a term is."""
    return 1 + max(map(depth_of, parts_of(term)), default=0)


def put_for(term, filling):
    """A term in which unknowns have given way."""
    if isinstance(term, tuple) and term[0] == "?":
        return filling.get(term[1], term)
    if isinstance(term, tuple) and term[0] == "!":
        return ("!", term[1], tuple(put_for(part, filling) for part in term[2]))
    if isinstance(term, tuple) and term[0] != "~":
        return (term[0],) + tuple(put_for(part, filling) for part in term[1:])
    return term


def all_calls(term):
    """All calls in a term as they are written."""
    told = [term] if isinstance(term, tuple) and term[0] == "!" else []
    return told + [each for part in parts_of(term) for each in all_calls(part)]


class SlowReckoner:
    """What uses come to, by calls within calls."""

    def __init__(self, told, facts, most):
        self.families = {each[0]: each for each in told.families}
        self.facts, self.most = facts, most
        self.asked, self.worths = [], {}

    def worth(self, name, use):
        if (name, use) in self.worths:
            return self.worths[name, use]
        if (name, use) in self.asked:
            raise Stop("NeedsItself", name, use)
        if len(self.asked) == self.most:
            raise Stop("TooMany", self.most)
        self.asked.append((name, use))
        _, one, _, bodies = self.families[name]
        choice = slow_choice(one.rows, use, self.facts)
        if choice[0] != "row":
            raise Stop({"many": "Unclear", "none": "Unmet"}[choice[0]], name, use)
        row = [row[0] for row in one.rows].index(choice[1])
        told = self.term(bodies[row], match(one.rows[row][1], use))
        self.worths[name, use] = told
        return told

    def term(self, term, filling):
        if not isinstance(term, tuple):
            return term
        if term[0] == "?":
            return filling[term[1]]
        if term[0] == "<":
            first, second = self.term(term[1], filling), self.term(term[2], filling)
            return self.term(term[3 if first < second else 4], filling)
        things = [self.term(part, filling) for part in parts_of(term)]
        if term[0] == "!":
            return self.worth(term[1], tuple(things))
        if term[0] in SIGNS:
            told = SIGNS[term[0]](*things)
            if abs(told) >= 10 ** 1000:
                raise Stop("TooGreat")
            return told
        told = (term[0], *things)
        if depth_of(told) > 200 or count_of(told) > 2000:
            raise Stop("TooGreat")
        return told


def slow_reckoned(told, name, use, facts, most):
    """The slow reckoner, and what it stopped by or None."""
    slow = SlowReckoner(told, facts, most)
    try:
        slow.worth(name, use)
    except Stop as stop:
        return slow, stop.args
    return slow, None


def some_term(chance, sort, unknowns, families, deep, calls=0.3):
    """A term of a sort: unknowns is a dict to sorts, families one from names to pairs of sorts and a sort."""
    here = [n for n in sorted(unknowns) if unknowns[n] == sort]
    if here and chance.random() < (0.8 if deep < 2 else 0.35):
        return ("?", chance.choice(here))
    if deep >= 2:
        names = [name for name in sorted(families) if families[name][1] == sort]
        if names and chance.random() < calls:
            name = chance.choice(names)
            # What calls are made with is mostly a part of what is there, so that some reckonings end.
            inner = [some_term(chance, each, unknowns, families, chance.choice([1, 1, 2, deep - 1]), calls / 2)
                     for each in families[name][0]]
            return ("!", name, tuple(inner))
        if chance.random() < 0.1:
            sorts = ("number", "number", sort, sort)
            return ("<",) + tuple(some_term(chance, each, unknowns, families, deep - 1, calls) for each in sorts)
    if sort == "number":
        if deep >= 2 and chance.random() < 0.5:
            inner = [some_term(chance, "number", unknowns, families, deep - 1, calls) for _ in range(2)]
            return (chance.choice("+-*"), *inner)
        return chance.choice([-1, 0, 1, 2, 10])
    if sort != "kind":
        return chance.choice(dict(DESK.lists)[sort])
    if deep < 2:
        return INT
    name, sorts = chance.choice(DESK.heads)
    return (name,) + tuple(some_term(chance, each, unknowns, families, deep - 1, calls) for each in sorts)


SORTS_OF_FAMILIES = [(("kind",), "kind"), (("kind", "kind"), "kind"), (("number", "kind"), "kind"),
                     (("number",), "number"), (("kind",), "number"), (("flag", "kind"), "kind"), (("number",), "flag")]


def with_all(one):
    """A table with a row for all uses, if it may have one more."""
    try:
        return Table(DESK, one.sorts, one.rows + (("all", top(one.sorts), None),))
    except BadTable:
        return one


def some_program(chance, most, deep=3, clear=False, calls=0.3, told=None):
    """A program of at most so many families."""
    told = told or [chance.choice(SORTS_OF_FAMILIES) for _ in range(chance.randrange(1, most + 1))]
    signatures = {"fghijkl"[k]: each for k, each in enumerate(told)}
    families = []
    for name, (sorts, sort) in signatures.items():
        one = some_clear(chance, sorts, 3) if clear or chance.random() < 0.8 else some_table(chance, sorts, 3)
        if chance.random() < 0.7:
            one = with_all(one)
        bodies = []
        for row in one.rows:
            unknowns = sorts_within(DESK, sorts, row[1])
            body = some_term(chance, sort, unknowns, signatures, deep, calls)
            while count_of(body) > 60 or depth_of(body) > 10:
                body = some_term(chance, sort, unknowns, signatures, deep, calls)
            bodies.append(body)
        families.append((name, one, sort, tuple(bodies)))
    return Program(DESK, tuple(families))


def signatures_of(told):
    """A dict from the names of a program's families to pairs of their sorts and the sort of their worths."""
    return {name: (one.sorts, sort) for name, one, sort, _ in told.families}


def term_written(term):
    """The text of a term, by calls within calls."""
    if isinstance(term, tuple) and term[0] == "!":
        return f"!{term[1]}({','.join(map(term_written, term[2]))})"
    if isinstance(term, tuple) and term[0] not in ("?", "~"):
        return f"{term[0]}({','.join(map(term_written, term[1:]))})"
    return slow_text(term)

