"""Reading texts sign by sign, without calls within calls: the first sign that cannot stand is told."""

from nearestkinds.errors import BadText

LETTERS = "abcdefghijklmnopqrstuvwxyz"
DIGITS = "0123456789"
MOST_LETTERS = 8
MOST_FIGURES = 20
MOST_UNKNOWN_FIGURES = 3
MOST_NEW_FIGURES = 9
MOST_DEEP = 200


class Reader:
    """A text that is being read from the left."""

    def __init__(self, text):
        self.text = text
        self.at = 0

    def is_next(self, signs):
        """Whether one of some signs comes next."""
        return self.at < len(self.text) and self.text[self.at] in signs

    def take(self, signs):
        """Reads one of some signs."""
        if not self.is_next(signs):
            raise BadText(self.at)
        self.at += 1
        return self.text[self.at - 1]

    def take_run(self, signs, most):
        """Reads as many of some signs as come next: one at least, and so many at most."""
        first = self.at
        self.take(signs)
        while self.at - first < most and self.is_next(signs):
            self.at += 1
        return self.text[first:self.at]

    def take_name(self):
        """Reads a name."""
        return self.take_run(LETTERS, MOST_LETTERS)

    def take_number(self, most):
        """Reads a number of at most so many figures, without a needless 0."""
        return int(self.take("0") if self.is_next("0") else self.take_run(DIGITS, most))

    def end(self):
        """Sees that nothing is left to be read."""
        if self.at < len(self.text):
            raise BadText(self.at)


class Opened:
    """A term or a demand that has been read up to its parenthesis, and what has been read within this."""

    def __init__(self, first, least, most):
        self.first = first
        self.least = least
        self.most = most
        self.things = []

    def signs(self):
        """The signs that may come behind what has been read within it so far."""
        many = len(self.things)
        more = "," if many > 0 and (self.most is None or many < self.most) else ""
        return more + ")" if many >= self.least else more

    def whole(self):
        """What has been read."""
        if self.first[0] == "!":
            return (*self.first, tuple(self.things))
        return (*self.first, *self.things)


def read_bundle(text):
    """The bundle that has just this text."""
    reader = Reader(text)
    things = [read_whole(reader, begin_term)]
    while reader.is_next(";"):
        reader.take(";")
        things.append(read_whole(reader, begin_term))
    reader.end()
    return tuple(things)


def read_one(text, begin):
    """The term or the demand, as begin begins it, that has just this text."""
    reader = Reader(text)
    found = read_whole(reader, begin)
    reader.end()
    return found


def read_whole(reader, begin):
    """Reads a term or a demand: begin reads what has nothing within it, or what comes ahead of that."""
    opened = []
    while True:
        found = begin(reader, len(opened) + 1)
        if type(found) is Opened:
            opened.append(found)
            if not reader.is_next(")"):
                continue
        elif len(opened) == 0:
            return found
        else:
            opened[-1].things.append(found)
        while reader.take(opened[-1].signs()) == ")":
            found = opened.pop().whole()
            if len(opened) == 0:
                return found
            opened[-1].things.append(found)


def begin_term(reader, deep):
    """Reads a term without terms within it, or one up to its parenthesis; it stands so deep."""
    if deep > MOST_DEEP:
        raise BadText(reader.at)
    if reader.is_next(LETTERS):
        return begin_name(reader)
    if reader.is_next("?~"):
        sign = reader.take("?~")
        return (sign, reader.take_number(MOST_UNKNOWN_FIGURES if sign == "?" else MOST_NEW_FIGURES))
    if reader.is_next(DIGITS):
        return reader.take_number(MOST_FIGURES)
    # What has a term within it cannot stand where this would be too deep.
    sign = reader.take("-!+*<" if deep < MOST_DEEP else "-")
    if sign == "!":
        name = reader.take_name()
        reader.take("(")
        return Opened(("!", name), 1, None)
    if sign == "-" and not (deep < MOST_DEEP and reader.is_next("(")):
        return take_negative(reader)
    reader.take("(")
    many = 4 if sign == "<" else 2
    return Opened((sign,), many, many)


def begin_name(reader):
    """Reads a word, or a kind up to its parenthesis."""
    name = reader.take_name()
    if not reader.is_next("("):
        return name
    reader.take("(")
    return Opened((name,), 0, None)


def take_negative(reader):
    """Reads the figures of an integer below 0."""
    if reader.is_next("0"):
        raise BadText(reader.at)
    return -int(reader.take_run(DIGITS, MOST_FIGURES))


def begin_demand(reader, deep):
    """Reads a claim, or a demand of two up to its parenthesis; it stands so deep."""
    if deep < MOST_DEEP and reader.is_next("&|"):
        word = "both" if reader.take("&|") == "&" else "either"
        reader.take("(")
        return Opened((word,), 2, 2)
    name = reader.take_name()
    reader.take("(")
    reader.take("?")
    number = reader.take_number(MOST_UNKNOWN_FIGURES)
    reader.take(")")
    return ("claim", name, number)
