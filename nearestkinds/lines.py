"""The forms of lines: words with one blank between."""

from nearestkinds.things import is_name


def has_form(words, forms):
    """Whether words have one of some forms.

    A form is told by words: NAME for a name, NAMES at the end for names, perhaps none, TEXT for any word of one sign
    or more, and all others for themselves.
    """
    return any([fits(words, form.split(" ")) for form in forms])


def fits(words, wanted):
    """Whether words are as wanted, one by one."""
    if wanted[-1] == "NAMES":
        wanted = wanted[:-1] + ["NAME"] * (len(words) - len(wanted) + 1)
    if len(words) != len(wanted):
        return False
    return all([fits_word(word, form) for word, form in zip(words, wanted)])


def fits_word(word, form):
    """Whether a word is as wanted."""
    if form == "NAME":
        return is_name(word)
    return word != "" if form == "TEXT" else word == form
