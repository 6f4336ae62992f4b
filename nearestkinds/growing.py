"""A tree of tests for a table: the nearest rows are asked for first, and nothing is asked that is known."""

from nearestkinds.demands import neat
from nearestkinds.parts import is_open, things_within
from nearestkinds.rows import least, nearness_of_all
from nearestkinds.things import is_integer


def grown(rows):
    """The tree that comes to the choice among the rows of a clear table."""
    asking = [(row[0], *tests_of_row(row)) for row in nearest_first(rows)]
    done, todo = [], [(None, {})]
    while todo:
        asked, said = todo.pop()
        if asked is not None:
            no, yes = done.pop(), done.pop()
            done.append((asked, yes, no))
            continue
        part = next_asked(asking, said)
        if len(part) < 3:
            done.append(part)
        else:
            todo.append((part, said))
            todo.append((None, said_also(asking, said, part, False)))
            todo.append((None, said_also(asking, said, part, True)))
    return done[0]


def nearest_first(rows):
    """The list of the rows, each one behind all that are nearer."""
    near, left, told = nearness_of_all(rows), list(range(len(rows))), []
    while left:
        first = least(near, left)
        told.extend([rows[row] for row in first])
        left = [row for row in left if row not in first]
    return told


def tests_of_row(row):
    """The tests that all say yes where a row's patterns match, and the lots of claims that then are enough."""
    places, tests = {}, []
    todo = [((k,), part) for k, part in enumerate(row[1])][::-1]
    while todo:
        path, part = todo.pop()
        if not is_open(part):
            tests.append(test_of_part(path, part))
            todo.extend([(path + (k,), inner) for k, inner in enumerate(things_within(part))][::-1])
        elif part[1] in places:
            tests.append(("same", places[part[1]], path))
        else:
            places[part[1]] = path
    return tests, [[("claim", name, places[n]) for name, n in lot] for lot in neat(row[2])]


def test_of_part(path, part):
    """The test of what a part of patterns asks for, but for the things within it."""
    if type(part) is tuple:
        return ("head", path, part[0])
    return ("number" if is_integer(part) else "word", path, part)


def next_asked(asking, said):
    """The next test of the first row that may be met, or the leaf if it surely is, or if there is none."""
    left = [each for each in asking if may_be_met(each, said)]
    if len(left) == 0:
        return ("none",)
    label, tests, lots = left[0]
    open_tests = [test for test in tests if test not in said]
    if len(open_tests) > 0:
        return best_test(tests, open_tests, left, said)
    open_claims = least_open(lots, said)
    return open_claims[0] if len(open_claims) > 0 else ("row", label)


def may_be_met(asks, said):
    """Whether a row may be met by what is said."""
    return are_open(asks[1], said) and any([are_open(lot, said) for lot in asks[2]])


def are_open(tests, said):
    """Whether all of the tests may say yes."""
    return all([said.get(test, True) for test in tests])


def least_open(lots, said):
    """The claims that are still to be asked of the lot that may hold and has the fewest of these."""
    found = None
    for lot in lots:
        claims = [claim for claim in lot if claim not in said]
        if are_open(lot, said) and (found is None or len(claims) < len(found)):
            found = claims
    return found


def best_test(tests, open_tests, left, said):
    """The test of a row that may be asked now by whose yes the most other rows are out: so trees are smaller."""
    best, most = None, -1
    for test in open_tests:
        many = len([each for each in left if has_rival(each[1], test)])
        if many > most and all([said.get(head, False) for head in heads_above(tests, test)]):
            best, most = test, many
    return best


def heads_above(tests, test):
    """The tests of a row for the heads within which the paths of a test of it go."""
    paths = test[1:] if test[0] == "same" else test[1:2]
    return [head for head in tests if head[0] == "head" and any([is_above(head[1], path) for path in paths])]


def is_above(path, other):
    """Whether the other path goes within what stands at a path."""
    return len(path) < len(other) and other[:len(path)] == path


def has_rival(tests, test):
    """Whether there is a test that says no if the other one says yes, by what stands at its path."""
    return any([are_rivals(test, other) for other in tests])


def are_rivals(test, other):
    """Whether two tests ask for unlike things at one path."""
    return test[0] in ("head", "word", "number") and test[:2] == other[:2] and test[2] != other[2]


def said_also(asking, said, test, answer):
    """What is said when a test has been answered, too: a yes says no to all its rivals."""
    more = {each: said[each] for each in said}
    more[test] = answer
    if answer:
        for _, tests, _ in asking:
            more.update({other: False for other in tests if are_rivals(test, other)})
    return more
