"""The errors of the package: one class for each kind of failure."""


class KindError(ValueError):
    """What every error of the package is."""


class BadBook(KindError):
    """A part of a book is wrong: "lists", "heads" or "claims"."""

    def __init__(self, part):
        self.part = part


class BadTable(KindError):
    """A part of a table is wrong: "sorts", "rows", the number of a row, or "many"."""

    def __init__(self, part):
        self.part = part


class BadProgram(KindError):
    """A part of a program is wrong: "families" or the number of a family."""

    def __init__(self, part):
        self.part = part


class BadText(KindError):
    """A text cannot be read: the place of the sign or the line that is wrong."""

    def __init__(self, place):
        self.place = place


class TooMany(KindError):
    """There are more things than may be: the most that may be."""

    def __init__(self, most):
        self.most = most


class NeedsItself(KindError):
    """A use is asked for while it is being reckoned."""

    def __init__(self, family, use):
        self.family = family
        self.use = use


class Unclear(KindError):
    """Several rows are chosen for a use that is asked for."""

    def __init__(self, family, use):
        self.family = family
        self.use = use


class Unmet(KindError):
    """No row is chosen for a use that is asked for."""

    def __init__(self, family, use):
        self.family = family
        self.use = use


class NoName(KindError):
    """Nothing of this name is kept."""

    def __init__(self, name):
        self.name = name


class Kept(KindError):
    """Something of this name is kept already."""

    def __init__(self, name):
        self.name = name


class NoSorts(KindError):
    """What was passed for sorts is no tuple of 1 to 4 sorts of the book."""

    def __init__(self):
        pass


class NoUse(KindError):
    """What was passed for a use is none."""

    def __init__(self):
        pass


class NoFacts(KindError):
    """What was passed for facts are none."""

    def __init__(self):
        pass


class NoRow(KindError):
    """What was passed for a row's number is none."""

    def __init__(self):
        pass


class NoLot(KindError):
    """What was passed for a lot of rows is none."""

    def __init__(self):
        pass


class NoWish(KindError):
    """What was passed for a wish is none."""

    def __init__(self):
        pass


class NoTree(KindError):
    """What was passed for a tree is none."""

    def __init__(self):
        pass


class NoFamily(KindError):
    """What was passed for a family's name is none."""

    def __init__(self):
        pass


class NoMany(KindError):
    """What was passed for the most that may be asked is none."""

    def __init__(self):
        pass


class NoTerm(KindError):
    """What was passed for a term is none."""

    def __init__(self):
        pass


class NoStanding(KindError):
    """What was passed for a standing is none."""

    def __init__(self):
        pass


class NoLine(KindError):
    """What was passed for a line is none."""

    def __init__(self):
        pass


class NoText(KindError):
    """What was passed for a text is no string."""

    def __init__(self):
        pass


class NothingDone(KindError):
    """There is no deed to be taken back."""

    def __init__(self):
        pass


class NotClear(KindError):
    """A table is not clear."""

    def __init__(self):
        pass


class NotRooted(KindError):
    """A program is not rooted."""

    def __init__(self):
        pass


class OtherPlaces(KindError):
    """Two tables are of unlike books or sorts."""

    def __init__(self):
        pass


class TooGreat(KindError):
    """What a term comes to is too great."""

    def __init__(self):
        pass
