"""Integers that are as some sums ask, or the reason why there are none: the simplex way, by integers alone."""

from math import gcd


def settled(columns, worths, many):
    """Settles for some columns of so many integers, each of a worth that is a number, which of two there is.

    This is ("prices", prices): a number for each place of a column, such that each column, each of its integers as
    often as its place's number tells, comes to at least 1 if it has a worth, else at least to 0. Or it is
    ("shares", shares): a number for each column, not all 0 for those of a worth, such that at each place the columns,
    as often as theirs tell, come to at most 0.
    """
    tableau = Tableau(columns, worths, many)
    while True:
        entering = tableau.entering()
        if entering is None:
            return ("prices", least_terms(tableau.goal[len(columns):]))
        leaving = tableau.leaving(entering)
        if leaving is None:
            return ("shares", least_terms(tableau.shares(entering)[:len(columns)]))
        tableau.exchange(leaving, entering)


def least_terms(numbers):
    """Some numbers, divided by what divides all of them."""
    by = 0
    for number in numbers:
        by = gcd(by, number)
    return numbers if by == 0 else [number // by for number in numbers]


class Tableau:
    """The shares of columns that are found so far, and how all others change them and what they are worth together.

    All integers stand for fractions with one denominator, `under`. As all sums are to come to at most 0, all shares
    are 0 until one of them may grow without end.
    """

    def __init__(self, columns, worths, many):
        self.rows = [[column[at] for column in columns] + unit(at, many) for at in range(many)]
        self.goal = [-worth for worth in worths] + [0] * many
        self.basis = [len(columns) + at for at in range(many)]
        self.under = 1

    def entering(self):
        """The first share by which the worth grows, or None. (By the first ones it ends: Bland's rule.)"""
        for at, number in enumerate(self.goal):
            if number < 0:
                return at
        return None

    def leaving(self, entering):
        """The row of the first share that keeps another one from growing, or None."""
        found = None
        for at, row in enumerate(self.rows):
            if row[entering] > 0 and (found is None or self.basis[at] < self.basis[found]):
                found = at
        return found

    def exchange(self, leaving, entering):
        """Lets one share stand in the place of another one."""
        main = self.rows[leaving]
        by = main[entering]
        self.rows = [row if at == leaving else self.without(row, main, entering) for at, row in enumerate(self.rows)]
        self.goal = self.without(self.goal, main, entering)
        self.basis[leaving] = entering
        self.under = by

    def without(self, row, main, entering):
        """A row from which as much of the main one is taken away as leaves nothing of the entering share."""
        by, many = main[entering], row[entering]
        return [(number * by - many * other) // self.under for number, other in zip(row, main)]

    def shares(self, entering):
        """The shares when the entering one grows without end."""
        told = [0] * len(self.goal)
        told[entering] = self.under
        for at, row in enumerate(self.rows):
            told[self.basis[at]] = -row[entering]
        return told


def unit(at, many):
    """A list of so many numbers, 1 at one place and else 0."""
    return [1 if k == at else 0 for k in range(many)]
