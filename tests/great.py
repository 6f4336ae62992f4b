"""Tables that are just as great as tables may be, and those that are a little greater."""

from tests.samples import chain
from tests.slow import A, B, C, INT, both, claim, either, pair, ptr, tri

LETTERS = "abcdefghijklmnopqrstuvwxyz"

# Eight places, two in each pair, for each of which a row may ask that an int stands there.
SORTS_OF_PLACES = ("kind",) * 4


def places(lot):
    """Patterns that ask for an int at these places."""
    things = [INT if n in lot else ("?", n) for n in range(8)]
    return tuple(pair(*things[n:n + 2]) for n in range(0, 8, 2))


# The meets are all that rows ask together: 128 lots of the first seven places, 64 with the places 7 and 0, and of
# those with 7 and without 0 the 8 that have 1, 2 and 3. One row more meets no other one.
MEETS_200 = tuple((LETTERS[k], places(lot), None) for k, lot in
                  enumerate([(0,), (1,), (2,), (3,), (4,), (5,), (6,), (7, 0), (7, 1, 2, 3)]))
MEETS_201 = MEETS_200 + (("z", (ptr(A), A, A, A), None),)

# Thirteen times what is told of fifteen parts, and five parts around them; then six.
INTS = tri(INT, INT, INT)
FIFTEEN = tri(tri(ptr(INT), INT, INT), tri(ptr(INT), INT, INT), INTS)
FIVES = tri(tri(A, A, A), A, A)
PARTS_200 = ((A, FIVES, FIVES, pair(A, A)), (FIFTEEN, A, B, C))
PARTS_201 = ((A, FIVES, FIVES, pair(ptr(A), A)), (FIFTEEN, A, B, C))

# Of the rows for these sorts each is for one number, so that no use is met by two, but for rows with like patterns.
SORTS_OF_CASES = ("flag", "kind", "number")


def claims(many):
    """So many unlike claims about the unknowns 1 to 3."""
    return [claim(name, n) for name in ("even", "odd", "good", "bad") for n in (1, 2, 3)][:many]


def demand(some):
    """A demand of at most eight claims."""
    while len(some) > 1:
        some = [(both, either)[len(some) > 2](*some[k:k + 2]) if k + 1 < len(some) else some[k]
                for k in range(0, len(some), 2)]
    return some[0] if some else None


def cases_2000():
    """Nine rows, two of them with like patterns, of 2 * (1 + 512 + 256 + 128 + 64 + 32 + 4 + 2 + 1) cases; clear."""
    rows = []
    for k, many in enumerate([9, 8, 7, 6, 5, 2, 1, 0]):
        rows.append((LETTERS[k], (A, tri(*[("?", n) for n in (1, 2, 3)]), k), demand(claims(many)[-8:])))
    # The first row's demand asks for one of its first four claims and one of its last four.
    some = claims(9)
    rows.append(("more", rows[0][1], both(both(some[1], some[5]), some[0])))
    return tuple(rows)


def cases_2001():
    """One row and one case more."""
    return cases_2000() + (("last", ("yes", chain(2, INT), 99), None),)
