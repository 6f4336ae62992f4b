"""Reckoning what uses come to, without calls within calls: uses may ask one another two thousand times."""

from nearestkinds.errors import NeedsItself, TooMany, Unclear, Unmet
from nearestkinds.parts import headed, is_open, taken, things_within
from nearestkinds.patterns import matched
from nearestkinds.rows import least, nearness_of_all
from nearestkinds.tables import rows_met
from nearestkinds.terms import is_arithmetic, is_call, is_less, made, reckoned_sum, terms_ahead
from nearestkinds.writing import written


def key_of(family, use):
    """What stands for a use of a family among the keys of a dict: uses themselves may be too deep for this."""
    return (family, written(use))


class Work:
    """The body of one use, as far as it has been reckoned."""

    def __init__(self, body, filling):
        self.filling = filling
        self.todo = [(False, body)]
        self.done = []
        self.wanted = None

    def reckon(self, worths):
        """Reckons on until a call's worth is not known: the pair of its key and its use, or None at the end."""
        if self.wanted is not None:
            self.done.append(worths[self.wanted])
            self.wanted = None
        while self.todo:
            behind, term = self.todo.pop()
            if not behind:
                self.begin(term)
            elif is_call(term):
                use = tuple(taken(self.done, len(term[2]))[::-1])
                key = key_of(term[1], use)
                if key not in worths:
                    self.wanted = key
                    return (key, use)
                self.done.append(worths[key])
            elif is_less(term):
                other, one = self.done.pop(), self.done.pop()
                self.todo.append((False, term[3] if one < other else term[4]))
            else:
                things = taken(self.done, len(things_within(term)))[::-1]
                self.done.append(reckoned_sum(term[0], things) if is_arithmetic(term) else made(headed(term, things)))
        return None

    def begin(self, term):
        """Begins a term: it is done once those that are reckoned ahead of it are."""
        ahead = terms_ahead(term)
        if is_open(term):
            self.done.append(self.filling[term[1]])
        elif len(ahead) == 0:
            self.done.append(term)
        else:
            self.todo.append((True, term))
            self.todo.extend([(False, part) for part in ahead[::-1]])

    def outcome(self):
        """What the body has come to."""
        return self.done[0]


class Reckoner:
    """What the uses of a program come to by some facts: those that were asked, and what is known of them."""

    def __init__(self, program, facts):
        self.families = {family[0]: family for family in program.families}
        self.facts = facts
        self.near = {}
        self.asked = {}
        self.worths = {}

    def work(self, family, use):
        """The work that a use is, by its chosen row."""
        _, table, _, bodies = self.families[family]
        if family not in self.near:
            self.near[family] = nearness_of_all(table.rows)
        rows = least(self.near[family], rows_met(table.rows, use, self.facts))
        if len(rows) > 1:
            raise Unclear(family, use)
        if len(rows) == 0:
            raise Unmet(family, use)
        return Work(bodies[rows[0]], matched(table.rows[rows[0]][1], use))

    def reckon_all(self, family, use, most):
        """Reckons a use, and for this all uses that are asked, at most so many unlike ones."""
        works = [self.asked_anew(key_of(family, use), use, most)]
        while works:
            key, work = works[-1]
            wanted = work.reckon(self.worths)
            if wanted is not None:
                works.append(self.asked_anew(wanted[0], wanted[1], most))
            else:
                self.worths[key] = work.outcome()
                works.pop()

    def asked_anew(self, key, use, most):
        """The key and the work of a use that is asked and whose worth is not known."""
        family = key[0]
        if key in self.asked:
            raise NeedsItself(family, use)
        if len(self.asked) == most:
            raise TooMany(most)
        self.asked[key] = (family, use)
        return (key, self.work(family, use))
