"""Books, and what things of their sorts are: numbers, words and kinds."""

from nearestkinds.errors import BadBook, NoSorts

MOST_UNKNOWNS = 1000


class Book:
    """The lists of words, the heads of kinds and the claims that tables are told with."""

    def __init__(self, lists, heads, claims):
        if not are_lists(lists):
            raise BadBook("lists")
        if not are_heads(heads, sort_names(lists)):
            raise BadBook("heads")
        if not are_claims(claims):
            raise BadBook("claims")
        self.lists = lists
        self.heads = heads
        self.claims = claims

    def __eq__(self, other):
        return (isinstance(other, Book) and self.lists == other.lists
                and self.heads == other.heads and self.claims == other.claims)


def is_bundle(book, sorts, thing):
    """Whether a thing is a tuple of open things, one of each sort, each unknown standing for one sort."""
    if not is_sorts(sorts, 1, 4, sort_names(book.lists)):
        raise NoSorts()
    return sorts_of_unknowns(book, sorts, thing) is not None


def is_use(book, sorts, thing):
    """Whether a thing is a bundle without unknowns."""
    if not is_sorts(sorts, 1, 4, sort_names(book.lists)):
        raise NoSorts()
    found = sorts_of_unknowns(book, sorts, thing)
    return found is not None and len(found) == 0


def sorts_of_unknowns(book, sorts, thing):
    """A dict from the numbers of a bundle's unknowns to their sorts, or None if the thing is no bundle."""
    if not is_tuple(thing, len(sorts), len(sorts)):
        return None
    words, heads = dict(book.lists), dict(book.heads)
    found = {}
    todo = list(zip(sorts, thing))
    # A list of what is still to be judged, no calls within calls: things may be deeper than calls can go.
    while todo:
        sort, part = todo.pop()
        if is_unknown(part):
            if found.setdefault(part[1], sort) != sort:
                return None
        elif sort == "kind":
            inner = pairs_within(part, heads)
            if inner is None:
                return None
            todo.extend(inner)
        elif sort == "number":
            if not is_integer(part):
                return None
        elif not is_word(part, words[sort]):
            return None
    return found


def pairs_within(thing, heads):
    """The pairs of a sort and a thing right within a kind, or None if the thing has no kind's form."""
    if is_numbered(thing, "~"):
        return []
    if type(thing) is not tuple or len(thing) == 0:
        return None
    if type(thing[0]) is not str or thing[0] not in heads:
        return None
    sorts = heads[thing[0]]
    if len(thing) != 1 + len(sorts):
        return None
    return list(zip(sorts, thing[1:]))


def is_unknown(thing):
    """Whether a thing is an unknown that may stand in a bundle."""
    return is_numbered(thing, "?") and thing[1] < MOST_UNKNOWNS


def is_numbered(thing, sign):
    """Whether a thing is a pair of this sign and a number."""
    return (is_tuple(thing, 2, 2) and type(thing[0]) is str and thing[0] == sign
            and is_integer(thing[1]) and thing[1] >= 0)


def is_integer(thing):
    """Whether a thing is an integer: True and False are none."""
    return type(thing) is int


def is_word(thing, words):
    """Whether a thing is one of some words."""
    return type(thing) is str and thing in words


def is_name(thing):
    """Whether a thing is a string of 1 to 8 letters from a to z."""
    return type(thing) is str and 1 <= len(thing) <= 8 and all(["a" <= sign <= "z" for sign in thing])


def is_tuple(thing, least, most):
    """Whether a thing is a tuple of at least and at most so many."""
    return type(thing) is tuple and least <= len(thing) <= most


def are_names(thing, least, most):
    """Whether a thing is a tuple of at least and at most so many names, perhaps with like ones."""
    return is_tuple(thing, least, most) and all([is_name(name) for name in thing])


def are_unlike(names):
    """Whether no name stands twice."""
    return len(set(names)) == len(names)


def are_lists(thing):
    """Whether a thing may be the lists of a book."""
    if not is_tuple(thing, 0, 4) or not all([is_list(part) for part in thing]):
        return False
    names = [name for name, _ in thing]
    words = [word for _, some in thing for word in some]
    return are_unlike(["kind", "number"] + names) and are_unlike(words)


def is_list(thing):
    """Whether a thing is a pair of a name and 2 to 4 words."""
    return is_tuple(thing, 2, 2) and is_name(thing[0]) and are_names(thing[1], 2, 4)


def are_heads(thing, known):
    """Whether a thing may be the heads of a book that knows these sorts."""
    if not is_tuple(thing, 0, 12) or not all([is_head(part, known) for part in thing]):
        return False
    return are_unlike([name for name, _ in thing])


def is_head(thing, known):
    """Whether a thing is a pair of a name and at most 3 of the known sorts."""
    return is_tuple(thing, 2, 2) and is_name(thing[0]) and is_sorts(thing[1], 0, 3, known)


def are_claims(thing):
    """Whether a thing may be the claims of a book."""
    return are_names(thing, 0, 4) and are_unlike(thing)


def sort_names(lists):
    """The names of all sorts of a book with these lists."""
    return ["kind", "number"] + [name for name, _ in lists]


def is_sorts(thing, least, most, known):
    """Whether a thing is a tuple of at least and at most so many of the known sorts."""
    return is_tuple(thing, least, most) and all([is_word(sort, known) for sort in thing])
