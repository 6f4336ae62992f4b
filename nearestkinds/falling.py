"""All falls of a rooted program's standings, and the standings to which they lead, each with the steps to it."""

from nearestkinds.parts import is_open
from nearestkinds.writing import written


class Falling:
    """The falls and leads of some standings of a program, and of all to which they lead.

    A use that is come to from a standing waits for the falls of the standing that it is of: each goes on to a thing
    within what stands at its eye. So falls are found by falls until there are no more.
    """

    def __init__(self, roots, standings):
        self.roots = roots
        self.told = []
        self.falls = {}
        self.leads = {}
        self.waiting = {}
        self.seen = {}
        self.todo = []
        for standing in standings:
            self.want(standing)
        while self.todo:
            standing, use, steps = self.todo.pop()
            self.come_to(standing, use, steps)

    def want(self, standing):
        """Begins with what follows a standing's use, if this has not been done."""
        if standing in self.falls:
            return
        self.falls[standing] = {}
        self.leads[standing] = {}
        self.waiting[standing] = []
        self.todo.extend([(standing, use, (k,)) for k, use in enumerate(self.roots.following(standing))])

    def come_to(self, standing, use, steps):
        """Notes that steps go from a standing's use to another one."""
        family, words, thing = use
        if not is_open(thing):
            self.wait(standing, use, steps)
        elif standing[2] is None:
            self.lead(standing, (family, words, None), steps)
        else:
            self.fall(standing, (family, words, thing[1]), steps)

    def lead(self, standing, other, steps):
        """Notes that a standing leads to another one."""
        self.want(other)
        if other not in self.leads[standing]:
            self.leads[standing][other] = steps

    def fall(self, standing, fall, steps):
        """Notes a fall of a standing: the uses that wait for it go on."""
        if fall in self.falls[standing]:
            return
        self.falls[standing][fall] = len(self.told)
        self.told.append((standing, fall, steps))
        for waiting, thing, steps_there in self.waiting[standing]:
            self.todo.append(self.gone_on(waiting, thing, steps_there, standing, fall))

    def wait(self, standing, use, steps):
        """Notes a use with a head at its eye: it goes on by all falls of the standing that it is of."""
        family, words, thing = use
        key = (standing, family, words, written((thing,)))
        if key in self.seen:
            return
        self.seen[key] = True
        other = (family, words, thing[0])
        self.lead(standing, other, steps)
        self.waiting[other].append((standing, thing, steps))
        for fall in self.falls[other]:
            self.todo.append(self.gone_on(standing, thing, steps, other, fall))

    def gone_on(self, waiting, thing, steps, standing, fall):
        """What is to be noted when a use of a standing goes on by a fall of this."""
        family, words, part = fall
        return (waiting, (family, words, thing[1 + part]), steps + (("fall", self.falls[standing][fall]),))
