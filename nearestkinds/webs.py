"""Parts of bundles as numbered knots, so that equal parts stand once and can be made equal once."""

from nearestkinds.parts import all_parts, is_open, root, taken, things_within


class Web:
    """The parts of some bundles by knots; the unknowns of unlike bundles are unlike.

    A knot is the number of a part. Knots that were united stand for one thing: the one among them that
    tops them speaks for it, and it is an unknown only if all of them are.
    """

    def __init__(self):
        self.parts = []
        self.inner = []
        self.above = []
        self.knots = {}
        self.many = 0

    def put(self, bundle):
        """Puts a bundle into the web: the list of the knots of its things."""
        done = []
        for part in all_parts(bundle)[::-1]:
            done.append(self.knot(part, taken(done, len(things_within(part)))))
        self.many += 1
        return done[::-1]

    def knot(self, part, inner):
        """The knot of a part of the bundle that is being put, over the knots of the things within it."""
        key = ("?", part[1], self.many) if is_open(part) else (root(part), *inner)
        if key not in self.knots:
            self.knots[key] = len(self.parts)
            self.above.append(len(self.parts))
            self.parts.append(part)
            self.inner.append(inner)
        return self.knots[key]

    def top(self, knot):
        """The knot that speaks for all that were united with this one."""
        while self.above[knot] != knot:
            self.above[knot] = self.above[self.above[knot]]
            knot = self.above[knot]
        return knot

    def unite(self, pairs):
        """Makes both knots of each pair one thing, with all within them: whether no roots clash."""
        todo = list(pairs)
        while todo:
            one, other = todo.pop()
            high, low = self.top(one), self.top(other)
            if is_open(self.parts[high]):
                high, low = low, high
            if high == low:
                continue
            if not is_open(self.parts[low]):
                if root(self.parts[high]) != root(self.parts[low]):
                    return False
                todo.extend(list(zip(self.inner[high], self.inner[low])))
            self.above[low] = high
        return True

    def is_finite(self, knots):
        """Whether nothing that these knots stand for would stand within itself."""
        left = {}
        todo = [(knot, False) for knot in knots]
        while todo:
            knot, behind = todo.pop()
            high = self.top(knot)
            if behind:
                left[high] = True
            elif high not in left:
                left[high] = False
                todo.append((high, True))
                todo.extend([(below, False) for below in self.inner[high]])
            elif not left[high]:
                return False
        return True
