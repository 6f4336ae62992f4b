"""Terms, of which the bodies of rows are made, and what their sums come to."""

from nearestkinds.errors import TooGreat
from nearestkinds.parts import all_parts, depth, things_within
from nearestkinds.things import is_integer, is_tuple, is_unknown, is_word

MOST_DEEP = 10
MOST_PARTS = 60
MOST_DIGITS = 1000
MOST_MADE_DEEP = 200
MOST_MADE_PARTS = 2000


def sorts_in_term(book, signatures, sort, thing):
    """A dict from the numbers of a term's unknowns to their sorts, or None if the thing is no term of the sort.

    signatures is a dict from the names of families to pairs: the sorts of their terms, and the sort of their worths.
    """
    found = {}
    todo, many = [(1, sort, thing)], 0
    while todo:
        deep, sort_here, part = todo.pop()
        many += 1
        if deep > MOST_DEEP or many > MOST_PARTS:
            return None
        if is_unknown(part):
            if found.setdefault(part[1], sort_here) != sort_here:
                return None
            continue
        inner = pairs_in_term(book, signatures, sort_here, part)
        if inner is None:
            return None
        todo.extend([(deep + 1, *pair) for pair in inner])
    return found


def pairs_in_term(book, signatures, sort, part):
    """The pairs of a sort and a term right within a term that is no unknown, or None if it has no term's form."""
    if type(part) is not tuple:
        return [] if is_bare(book, sort, part) else None
    if len(part) == 0 or type(part[0]) is not str:
        return None
    if part[0] == "!":
        return pairs_in_call(signatures, sort, part)
    sorts = None
    if part[0] in ("+", "-", "*"):
        sorts = ("number", "number") if sort == "number" else None
    elif part[0] == "<":
        sorts = ("number", "number", sort, sort)
    elif sort == "kind":
        sorts = dict(book.heads).get(part[0])
    if sorts is None or len(part) != 1 + len(sorts):
        return None
    return list(zip(sorts, part[1:]))


def is_bare(book, sort, part):
    """Whether a thing is an integer or a word, as the sort asks."""
    if sort == "kind":
        return False
    return is_integer(part) if sort == "number" else is_word(part, dict(book.lists)[sort])


def pairs_in_call(signatures, sort, part):
    """The pairs of a sort and a term in a call whose worth is of a sort, or None if it is no such call."""
    if len(part) != 3 or not is_word(part[1], signatures):
        return None
    sorts, worth_sort = signatures[part[1]]
    if worth_sort != sort or not is_tuple(part[2], len(sorts), len(sorts)):
        return None
    return list(zip(sorts, part[2]))


def is_call(term):
    """Whether a term is a call."""
    return type(term) is tuple and term[0] == "!"


def is_arithmetic(term):
    """Whether a term is a sum, a difference or a product."""
    return type(term) is tuple and term[0] in ("+", "-", "*")


def is_less(term):
    """Whether a term is a LESS."""
    return type(term) is tuple and term[0] == "<"


def is_plain(term):
    """Whether there is nothing to be reckoned right at a term."""
    return not is_call(term) and not is_arithmetic(term) and not is_less(term)


def terms_ahead(term):
    """The terms right within a term that are reckoned ahead of it: of LESS the first two alone."""
    inner = things_within(term)
    return inner[:2] if is_less(term) else inner


def calls_in(term):
    """The list of all calls in a term as they are written, outer ones ahead of those in their terms."""
    return [part for part in all_parts((term,)) if is_call(part)]


def reckoned_sum(sign, things):
    """What the sum, the difference or the product of two integers comes to."""
    one, other = things
    if sign == "+":
        told = one + other
    elif sign == "-":
        told = one - other
    else:
        told = one * other
    if len(str(abs(told))) > MOST_DIGITS:
        raise TooGreat()
    return told


def made(term):
    """A kind or term that was made, if it is not too great."""
    if len(all_parts((term,))) > MOST_MADE_PARTS or depth((term,)) > MOST_MADE_DEEP:
        raise TooGreat()
    return term
