"""A house: a program and facts that are changed by lines, and asked by lines."""

from nearestkinds.clear import missing, unclear
from nearestkinds.demands import is_facts
from nearestkinds.descent import descent
from nearestkinds.early import early
from nearestkinds.ends import ends
from nearestkinds.errors import Kept, KindError, NoFacts, NoLine, NoName, NothingDone, NoText
from nearestkinds.lines import has_form
from nearestkinds.programs import MOST_MANY, Program, table_of, worth
from nearestkinds.reading import read_bundle
from nearestkinds.roots import is_rooted
from nearestkinds.tables import Table, nearest
from nearestkinds.texts import program_text, read_term, row_read, term_text

DEED_FORMS = ("family NAME NAME NAMES", "row NAME NAME TEXT = TEXT", "row NAME NAME TEXT if TEXT = TEXT",
              "take NAME NAME", "fact NAME TEXT")
FORMS = ("undo", "choice NAME TEXT", "worth NAME TEXT", "clear NAME", "missing NAME", "early NAME TEXT", "rooted",
         "ends", "weights", "show")
OF_KEPT_FAMILIES = ("row", "take", "choice", "worth", "clear", "missing", "early")


class House:
    """A program and facts, and the deeds that have been done to them and not been taken back."""

    def __init__(self, book):
        self.program = Program(book, ())
        self.facts = ()
        self.deeds = []

    def tell(self, line):
        """Does what a line tells: a deed tells "ok", a question its answer."""
        words = words_of(line)
        if words[0] in OF_KEPT_FAMILIES and words[1] not in family_names(self.program):
            raise NoName(words[1])
        if words == ["undo"]:
            return self.undo()
        if not has_form(words, DEED_FORMS):
            return answer(self.program, self.facts, words)
        program, facts = changed(self.program, self.facts, words)
        self.deeds.append((line, self.program, self.facts))
        self.program = program
        self.facts = facts
        return "ok"

    def undo(self):
        """Takes the last deed back."""
        if len(self.deeds) == 0:
            raise NothingDone()
        _, self.program, self.facts = self.deeds.pop()
        return "ok"

    def journal(self):
        """The lines of all deeds that have been done and not been taken back, each closed by a line feed."""
        return "".join([line + "\n" for line, _, _ in self.deeds])


def recovered(book, text):
    """The pair of a house on which the first lines of a text were told, and how many signs these have."""
    if type(text) is not str:
        raise NoText()
    house, many = House(book), 0
    for line in text.split("\n")[:-1]:
        if not has_form(line.split(" "), DEED_FORMS):
            break
        try:
            house.tell(line)
        except KindError:
            break
        many += len(line) + 1
    return house, many


def words_of(line):
    """The list of the words of a line for a house."""
    if type(line) is not str or "\n" in line:
        raise NoLine()
    words = line.split(" ")
    if not has_form(words, DEED_FORMS) and not has_form(words, FORMS):
        raise NoLine()
    return words


def changed(program, facts, words):
    """The program and the facts behind a deed."""
    if words[0] == "family":
        return with_family(program, words), facts
    if words[0] == "row":
        return with_row(program, words), facts
    if words[0] == "take":
        return without_row(program, words), facts
    return program, with_fact(program, facts, words)


def with_family(program, words):
    """The program with one family more, without rows."""
    _, name, sort, *sorts = words
    if name in family_names(program):
        raise Kept(name)
    family = (name, Table(program.book, tuple(sorts), ()), sort, ())
    return Program(program.book, program.families + (family,))


def with_row(program, words):
    """The program with one row more."""
    _, name, label, *rest = words
    rows = rows_of(program, name)
    if label in [row[0] for row, _ in rows]:
        raise Kept(label)
    patterns, demand, body = row_read(rest)
    return with_rows(program, name, rows + [((label, patterns, demand), body)])


def without_row(program, words):
    """The program without a row."""
    _, name, label = words
    rows = rows_of(program, name)
    if label not in [row[0] for row, _ in rows]:
        raise NoName(label)
    return with_rows(program, name, [(row, body) for row, body in rows if row[0] != label])


def with_fact(program, facts, words):
    """The facts with one more."""
    _, claim, text = words
    more = facts + ((claim, read_term(text)),)
    if not is_facts(program.book, more):
        raise NoFacts()
    return more


def family_names(program):
    """The list of the names of a program's families."""
    return [family[0] for family in program.families]


def rows_of(program, name):
    """The list of the rows of a family, pairs of a row and its body."""
    return [pair for family in program.families if family[0] == name for pair in zip(family[1].rows, family[3])]


def with_rows(program, name, rows):
    """The program in which a family has these rows."""
    families = []
    for family in program.families:
        if family[0] == name:
            table = Table(program.book, family[1].sorts, tuple([row for row, _ in rows]))
            family = (name, table, family[2], tuple([body for _, body in rows]))
        families.append(family)
    return Program(program.book, tuple(families))


def answer(program, facts, words):
    """The answer to a question."""
    if words[0] in OF_KEPT_FAMILIES:
        return answer_of_family(program, facts, words)
    if words[0] == "show":
        return program_text(program).replace("\n", "|")
    if words[0] == "rooted":
        return yes_or_no(is_rooted(program))
    if words[0] == "ends":
        return yes_or_no(ends(program)[0] == "ends")
    return yes_or_no(descent(program)[0] == "weights")


def answer_of_family(program, facts, words):
    """The answer to a question about a family."""
    table = table_of(program, words[1])
    if words[0] == "clear":
        return yes_or_no(unclear(table) is None)
    if words[0] == "missing":
        return str(len(missing(table)))
    bundle = read_bundle(words[2])
    if words[0] == "worth":
        return term_text(worth(program, words[1], bundle, facts, MOST_MANY))
    if words[0] == "early":
        return choice_text(early(table, (bundle, None)))
    return choice_text(nearest(table, bundle, facts))


def choice_text(choice):
    """The words for a choice, or for none that is early."""
    if choice is None:
        return "open"
    if choice[0] == "many":
        return " ".join(["many", *choice[1]])
    return choice[-1]


def yes_or_no(flag):
    """The word for a flag."""
    return "yes" if flag else "no"
