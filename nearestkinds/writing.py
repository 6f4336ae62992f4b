"""The texts of bundles and terms: like bundles that are plain have one text, unlike ones have unlike texts."""

from nearestkinds.parts import all_parts, taken, things_within


def written(bundle):
    """The text of a bundle."""
    done = []
    # From the right, so that the texts of the things within a part are done when the part comes.
    for part in all_parts(bundle)[::-1]:
        done.append(part_text(part, taken(done, len(things_within(part)))))
    return ";".join(done[::-1])


def part_text(part, texts):
    """The text of a part of a bundle, with those of the things right within it."""
    if type(part) is not tuple:
        return str(part)
    if part[0] in ("?", "~"):
        return part[0] + str(part[1])
    first = "!" + part[1] if part[0] == "!" else part[0]
    return first + "(" + ",".join(texts) + ")"
