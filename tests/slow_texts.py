"""Which texts are terms, bundles and demands, and which begin one: by all ways of reading at once."""

import re

from tests.slow_programs import term_written

NAME = "abcdefghijklmnopqrstuvwxyz"


def token(text, at, pattern):
    """All places behind what a pattern of one sign after the other may read, and whether it may go on at the end.

    The pattern is a list of pairs of signs and how often they may stand at most, the first ones once at least.
    """
    ends, places = set(), {at}
    for signs, least, most in pattern:
        more = set()
        for place in places:
            many = 0
            if least == 0:
                more.add(place)
            while many < most and place < len(text) and text[place] in signs:
                place, many = place + 1, many + 1
                if many >= least:
                    more.add(place)
            if place == len(text) and many < most:
                ends.add("open")
        places = more
    return places, "open" in ends


def after(text, ends, signs):
    """The places behind one of some signs at each of these, and whether the text ends at one of these."""
    return {place + 1 for place in ends if place < len(text) and text[place] in signs}, len(text) in ends


def term(text, at, deep, most=200):
    """All places behind a term that begins here, and whether the text ends before one may end."""
    if deep > most:
        return set(), False
    if at == len(text):
        return set(), True
    ends, alive = set(), False
    for pattern in ([("0", 1, 1)], [("123456789", 1, 1), ("0123456789", 0, 19)],
                    [("-", 1, 1), ("123456789", 1, 1), ("0123456789", 0, 19)], [(NAME, 1, 8)],
                    [("?", 1, 1), ("0", 1, 1)], [("?", 1, 1), ("123456789", 1, 1), ("0123456789", 0, 2)],
                    [("~", 1, 1), ("0", 1, 1)], [("~", 1, 1), ("123456789", 1, 1), ("0123456789", 0, 8)]):
        found, is_open = token(text, at, pattern)
        ends, alive = ends | found, alive or is_open
    for pattern, least, greatest in (([(NAME, 1, 8), ("(", 1, 1)], 0, None),
                                     ([("!", 1, 1), (NAME, 1, 8), ("(", 1, 1)], 1, None),
                                     ([("+-*", 1, 1), ("(", 1, 1)], 2, 2), ([("<", 1, 1), ("(", 1, 1)], 4, 4)):
        if least > 0 and deep == most:
            continue
        begun, is_open = token(text, at, pattern)
        alive = alive or is_open
        found, is_open = things(text, begun, least, greatest, lambda place: term(text, place, deep + 1, most))
        ends, alive = ends | found, alive or is_open
    return ends, alive


def things(text, begun, least, most, read):
    """All places behind things with signs between and a parenthesis behind, and whether the text ends in them."""
    ends, alive, many = set(), False, 0
    if least == 0:
        found, is_open = after(text, begun, ")")
        ends, alive = found, is_open
    while begun and (most is None or many < most):
        many += 1
        behind = set()
        for place in begun:
            found, is_open = read(place)
            behind, alive = behind | found, alive or is_open
        if many >= least:
            found, is_open = after(text, behind, ")")
            ends, alive = ends | found, alive or is_open
        begun, is_open = after(text, behind, ",") if most is None or many < most else (set(), False)
        alive = alive or is_open
    return ends, alive


def demand(text, at, deep, most=200):
    """All places behind a demand that begins here, and whether the text ends before one may end."""
    if deep > most:
        return set(), False
    if at == len(text):
        return set(), True
    ends, alive = set(), False
    for figures in ([("0", 1, 1)], [("123456789", 1, 1), ("0123456789", 0, 2)]):
        found, is_open = token(text, at, [(NAME, 1, 8), ("(", 1, 1), ("?", 1, 1), *figures, (")", 1, 1)])
        ends, alive = ends | found, alive or is_open
    if deep < most:
        begun, is_open = token(text, at, [("&|", 1, 1), ("(", 1, 1)])
        found, more = things(text, begun, 2, 2, lambda place: demand(text, place, deep + 1, most))
        ends, alive = ends | found, alive or is_open or more
    return ends, alive


def bundle(text, at):
    """All places behind a bundle that begins here, and whether the text ends before one may end."""
    ends, alive, begun = set(), False, {at}
    while begun:
        behind = set()
        for place in begun:
            found, is_open = term(text, place, 1)
            behind, alive = behind | found, alive or is_open
        ends |= behind
        begun, _ = after(text, behind, ";")
    return ends, alive


def whole(read, text):
    """Whether a text is one, and whether one begins with it."""
    ends, alive = read(text)
    return len(text) in ends, alive or len(text) in ends


def first_wrong(read, text):
    """The place that is told of a text that is none, or None if it is one."""
    if whole(read, text)[0]:
        return None
    for place in range(len(text)):
        if not whole(read, text[:place + 1])[1]:
            return place
    return len(text)


def of_term(text):
    return term(text, 0, 1)


def of_bundle(text):
    return bundle(text, 0)


def of_demand(text):
    return demand(text, 0, 1)


def demand_written(told):
    """The text of a demand, by calls within calls."""
    if told[0] == "claim":
        return f"{told[1]}(?{told[2]})"
    return ("&" if told[0] == "both" else "|") + f"({demand_written(told[1])},{demand_written(told[2])})"


def program_written(told):
    """The text of a program."""
    book = told.book
    lines = [" ".join(["list", name, *words]) for name, words in book.lists]
    lines += [" ".join(["head", name, *sorts]) for name, sorts in book.heads]
    lines += [f"claim {name}" for name in book.claims]
    for name, one, sort, bodies in told.families:
        lines.append(" ".join(["family", name, sort, *one.sorts]))
        for row, body in zip(one.rows, bodies):
            demanded = "" if row[2] is None else f" if {demand_written(row[2])}"
            lines.append(f"row {row[0]} {';'.join(map(term_written, row[1]))}{demanded} = {term_written(body)}")
    return "".join(line + "\n" for line in lines)


def is_name(word):
    """Whether a word is a name."""
    return re.fullmatch("[a-z]{1,8}", word) is not None


def first_wrong_line(text):
    """The number of the line that is told of a text that cannot be read as a program, or None."""
    *lines, rest = text.split("\n")
    stage = 0
    for k, line in enumerate(lines):
        words = line.split(" ")
        stages = {"list": 0, "head": 1, "claim": 2, "family": 3, "row": 3}
        right = words[0] in stages and stages[words[0]] >= stage
        if right and words[0] != "row":
            least, most = {"list": (2, 99), "head": (2, 99), "claim": (2, 2), "family": (3, 99)}[words[0]]
            right = least <= len(words) <= most and all(map(is_name, words))
        elif right:
            right = any(each.startswith("family ") for each in lines[:k]) and len(words) in (5, 7) and is_name(words[1])
            right = right and words[-2] == "=" and (len(words) == 5 or words[3] == "if")
            right = right and whole(of_bundle, words[2])[0] and whole(of_term, words[-1])[0]
            right = right and (len(words) == 5 or whole(of_demand, words[4])[0])
        if not right:
            return k + 1
        stage = stages[words[0]]
    return len(lines) + 1 if rest else None
