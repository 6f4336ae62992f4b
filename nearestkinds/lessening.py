"""Terms lessened ahead of filling: calls whose row can be chosen early give way to its body."""

from nearestkinds.early import choice_ahead
from nearestkinds.errors import NoTerm, TooMany
from nearestkinds.parts import all_parts, built, headed, is_open, taken
from nearestkinds.patterns import matched
from nearestkinds.programs import check_many, signatures_of
from nearestkinds.terms import is_arithmetic, is_call, is_less, made, reckoned_sum, sorts_in_term, terms_ahead
from nearestkinds.things import is_integer
from nearestkinds.views import check_clear, is_wish
from nearestkinds.writing import written


def lessened(program, term, most):
    """The term in which calls have given way to bodies, at most so many, wherever their rows are chosen early."""
    if sorts_in_term(program.book, signatures_of(program.families), "kind", term) is None:
        raise NoTerm()
    check_many(most)
    check_all_clear(program)
    return Lessening(program, most).lessen(term)


def check_all_clear(program):
    """Raises NotClear if a table of a program is not clear."""
    for _, table, _, _ in program.families:
        check_clear(table)


class EarlyRows:
    """The rows that are chosen early for the calls of a program, each call's looked for once."""

    def __init__(self, program):
        self.families = {family[0]: family for family in program.families}
        self.told = {}

    def row(self, family, bundle):
        """The number of the row that is chosen early for a bundle, or None if none is, or it is no wish."""
        key = (family, written(bundle))
        if key not in self.told:
            self.told[key] = early_row(self.families[family][1], (bundle, None))
        return self.told[key]

    def body(self, family, bundle):
        """The body of the row that is chosen early and the filling of it, or None if there is no such row."""
        row = self.row(family, bundle)
        if row is None:
            return None
        _, table, _, bodies = self.families[family]
        return (bodies[row], matched(table.rows[row][1], bundle))


def early_row(table, wish):
    """The number of the row that is the early choice of a clear table, or None if there is none, or it is no wish."""
    if not is_wish(table, wish):
        return None
    try:
        told = choice_ahead(table, wish)
    except TooMany:
        return None
    if told is None or told[0] != "row":
        return None
    return [row[0] for row in table.rows].index(told[1])


class Lessening:
    """A term that is being lessened: what is still to be done, and the terms that are done."""

    def __init__(self, program, most):
        self.rows = EarlyRows(program)
        self.most = most
        self.many = 0
        self.todo = []
        self.done = []

    def lessen(self, term):
        """The term, lessened."""
        self.todo.append((False, term, {}))
        while self.todo:
            behind, part, filling = self.todo.pop()
            if behind:
                self.end(part, filling)
            else:
                self.begin(part, filling)
        return self.done[0]

    def begin(self, term, filling):
        """Begins a term: it is done once those that are lessened ahead of it are."""
        ahead = terms_ahead(term)
        if is_open(term):
            self.done.append(filling.get(term[1], term))
        elif len(ahead) == 0:
            self.done.append(term)
        else:
            self.todo.append((True, term, filling))
            self.todo.extend([(False, part, filling) for part in ahead[::-1]])

    def end(self, term, filling):
        """Ends a term, those ahead of it being done: it gives way, or it stays."""
        things = taken(self.done, len(terms_ahead(term)))[::-1]
        if is_call(term):
            self.end_call(term, tuple(things))
        elif not (is_less(term) or is_arithmetic(term)) or not all([is_integer(thing) for thing in things]):
            # Nothing is done in the last two terms of a LESS that stays, but for the filling.
            rest = built(all_parts(term[3:]), filling) if is_less(term) else ()
            self.done.append(made(headed(term, [*things, *rest])))
        elif is_less(term):
            self.todo.append((False, term[3] if things[0] < things[1] else term[4], filling))
        else:
            self.done.append(reckoned_sum(term[0], things))

    def end_call(self, term, terms):
        """Ends a call with these terms."""
        found = self.rows.body(term[1], terms)
        if found is None:
            self.done.append(made(headed(term, terms)))
            return
        if self.many == self.most:
            raise TooMany(self.most)
        self.many += 1
        self.todo.append((False, *found))
