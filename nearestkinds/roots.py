"""Rooted programs: their rows look at the root of one kind alone, so that finitely many standings tell all uses."""

from nearestkinds.clear import unclear
from nearestkinds.errors import NotRooted
from nearestkinds.parts import all_parts, is_open, things_within
from nearestkinds.patterns import filled, matched
from nearestkinds.rows import least, nearness_of_all
from nearestkinds.tables import rows_met
from nearestkinds.terms import calls_in, is_call, is_less
from nearestkinds.things import are_unlike, is_tuple, is_word
from nearestkinds.ways import unknown_use


def is_rooted(program):
    """Whether a program is rooted."""
    if any([sort != "kind" for _, sorts in program.book.heads for sort in sorts]):
        return False
    if not all([has_eye(table.sorts) and sort == "kind" for _, table, sort, _ in program.families]):
        return False
    if not all([is_root_row(table.sorts, row) for _, table, _, _ in program.families for row in table.rows]):
        return False
    if not all([is_root_body(body) for _, _, _, bodies in program.families for body in bodies]):
        return False
    return all([unclear(table) is None for _, table, _, _ in program.families])


def has_eye(sorts):
    """Whether one of some sorts is that of kinds, and all others are lists."""
    return sorts.count("kind") == 1 and "number" not in sorts


def is_root_row(sorts, row):
    """Whether a row without a demand asks for words, and for one head at the eye, all its unknowns being unlike."""
    eye = row[1][sorts.index("kind")]
    if row[2] is not None or not all([is_open(thing) for thing in things_within(eye)]):
        return False
    return are_unlike([part[1] for part in all_parts(row[1]) if is_open(part)])


def is_root_body(body):
    """Whether there is no LESS in a body, and no call within the terms of a call."""
    if any([is_less(part) for part in all_parts((body,))]):
        return False
    return not any([is_call(part) for call in calls_in(body) for part in all_parts(call[2])])


def check_rooted(program):
    """Raises NotRooted if a program is not rooted."""
    if not is_rooted(program):
        raise NotRooted()


class Roots:
    """The standings of a rooted program, and what follows their uses.

    A use is told by a family, its words and the thing at its eye. The things within the root of a standing are told
    by the unknowns ("?", 0), ("?", 1), .., a new kind at the eye by ("?", 0).
    """

    def __init__(self, program):
        self.heads = dict(program.book.heads)
        self.words = dict(program.book.lists)
        self.families = {family[0]: family for family in program.families}
        self.near = {name: nearness_of_all(self.families[name][1].rows) for name in self.families}
        self.kept = {}

    def standings(self):
        """The list of all standings."""
        told = []
        for name in self.families:
            ways = [()]
            for sort in self.list_sorts(name):
                ways = [words + (word,) for words in ways for word in self.words[sort]]
            told.extend([(name, words, root) for words in ways for root in [None, *self.heads]])
        return told

    def list_sorts(self, name):
        """The names of the lists whose words stand in a use of a family."""
        return [sort for sort in self.families[name][1].sorts if sort != "kind"]

    def is_standing(self, thing):
        """Whether a thing is a standing."""
        if not is_tuple(thing, 3, 3) or not is_word(thing[0], self.families):
            return False
        lists = self.list_sorts(thing[0])
        if not is_tuple(thing[1], len(lists), len(lists)):
            return False
        if not all([is_word(word, self.words[sort]) for word, sort in zip(thing[1], lists)]):
            return False
        return thing[2] is None or is_word(thing[2], self.heads)

    def eye(self, root):
        """The thing at the eye of a standing's use."""
        if root is None:
            return ("?", 0)
        return (root, *unknown_use(self.heads[root]))

    def following(self, standing):
        """The list of the uses that follow a standing's use, in the order of the calls in its row's body."""
        if standing not in self.kept:
            self.kept[standing] = self.found_following(standing)
        return list(self.kept[standing])

    def found_following(self, standing):
        """What following tells, reckoned anew."""
        name, words, root = standing
        _, table, _, bodies = self.families[name]
        place = table.sorts.index("kind")
        use = words[:place] + (self.eye(root),) + words[place:]
        rows = least(self.near[name], rows_met(table.rows, use, ()))
        if len(rows) == 0:
            return []
        filling = matched(table.rows[rows[0]][1], use)
        return [self.use_told(call[1], filled(call[2], filling)) for call in calls_in(bodies[rows[0]])]

    def use_told(self, name, use):
        """The family, the words and the thing at the eye of a use."""
        place = self.families[name][1].sorts.index("kind")
        return (name, use[:place] + use[place + 1:], use[place])
