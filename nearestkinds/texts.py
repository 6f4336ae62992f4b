"""Texts of terms, bundles, demands and programs, and reading them."""

from nearestkinds.demands import demand_parts
from nearestkinds.errors import BadText
from nearestkinds.lines import has_form
from nearestkinds.programs import Program
from nearestkinds.reading import begin_demand, begin_term, read_bundle, read_one
from nearestkinds.tables import Table
from nearestkinds.things import Book
from nearestkinds.writing import written

FORMS = ("list NAME NAMES", "head NAME NAMES", "claim NAME", "family NAME NAME NAMES", "row NAME TEXT = TEXT",
         "row NAME TEXT if TEXT = TEXT")
PLACES = {"list": 0, "head": 1, "claim": 2, "family": 3, "row": 4}


def term_text(term):
    """The text of an open thing or a term."""
    return written((term,))


def bundle_text(bundle):
    """The text of a bundle."""
    return written(bundle)


def demand_text(demand):
    """The text of a demand, the empty string for None."""
    done = []
    for part in demand_parts(demand)[::-1]:
        if part is None:
            done.append("")
        elif part[0] == "claim":
            done.append(part[1] + "(?" + str(part[2]) + ")")
        else:
            one, other = done.pop(), done.pop()
            done.append(("&(" if part[0] == "both" else "|(") + one + "," + other + ")")
    return done[0]


def read_term(text):
    """The open thing or term that has just this text."""
    if type(text) is not str:
        raise BadText(0)
    return read_one(text, begin_term)


def program_text(program):
    """The lines of a program and its book."""
    lines = [["list", name, *words] for name, words in program.book.lists]
    lines.extend([["head", name, *sorts] for name, sorts in program.book.heads])
    lines.extend([["claim", name] for name in program.book.claims])
    for name, table, sort, bodies in program.families:
        lines.append(["family", name, sort, *table.sorts])
        lines.extend([row_words(row, body) for row, body in zip(table.rows, bodies)])
    return "".join([" ".join(words) + "\n" for words in lines])


def row_words(row, body):
    """The words of a row's line."""
    label, patterns, demand = row
    demanded = [] if demand is None else ["if", demand_text(demand)]
    return ["row", label, bundle_text(patterns), *demanded, "=", term_text(body)]


def row_read(words):
    """The patterns, the demand and the body of a row that is told by such words."""
    patterns = read_bundle(words[0])
    demand = read_one(words[2], begin_demand) if words[1] == "if" else None
    return patterns, demand, read_one(words[-1], begin_term)


def read_program(text):
    """The program that has this text."""
    if type(text) is not str:
        raise BadText(0)
    draft = Draft()
    closed = text.split("\n")
    for k, line in enumerate(closed[:-1]):
        draft.read(line, k + 1)
    if closed[-1] != "":
        raise BadText(len(closed))
    return draft.whole_program()


class Draft:
    """What has been read of a program so far."""

    def __init__(self):
        self.kind = "list"
        self.lists = []
        self.heads = []
        self.claims = []
        self.families = []

    def read(self, line, number):
        """Reads one line."""
        words = line.split(" ")
        if not has_form(words, FORMS) or not self.may_stand(words[0]):
            raise BadText(number)
        self.kind = words[0]
        if self.kind == "list":
            self.lists.append((words[1], tuple(words[2:])))
        elif self.kind == "head":
            self.heads.append((words[1], tuple(words[2:])))
        elif self.kind == "claim":
            self.claims.append(words[1])
        elif self.kind == "family":
            self.families.append((words[1], words[2], tuple(words[3:]), []))
        else:
            self.read_row(words, number)

    def may_stand(self, kind):
        """Whether a line of a kind may stand behind those that have been read."""
        if kind in ("family", "row"):
            return kind == "family" or len(self.families) > 0
        return PLACES[kind] >= PLACES[self.kind]

    def read_row(self, words, number):
        """Reads the line of a row of the last family."""
        try:
            patterns, demand, body = row_read(words[2:])
        except BadText:
            raise BadText(number) from None
        self.families[-1][3].append(((words[1], patterns, demand), body))

    def whole_program(self):
        """The program that has been read."""
        book = Book(tuple(self.lists), tuple(self.heads), tuple(self.claims))
        families = []
        for name, sort, sorts, rows in self.families:
            table = Table(book, sorts, tuple([row for row, _ in rows]))
            families.append((name, table, sort, tuple([body for _, body in rows])))
        return Program(book, tuple(families))
