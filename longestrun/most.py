"""How long a program takes at most.

What a part does to one set of a cache hangs on nothing else than what is known of that set. So
what is known behind a part is told set by set, and each such answer is kept while the call lasts:
in loops within loops the same set comes to the same few things again and again, while all sets
together hardly ever do.
"""

from longestrun.known import NOTHING, is_known, joined, use_any
from longestrun.right import BEHIND, EITHER, STEP, has_bytes, line_of


class OneSet:
    """A set of a cache, and what the parts do to what is known of it."""

    def __init__(self, kind, number, parts, lines):
        self.kind = kind
        self.number = number
        self.parts = parts
        self.lines = lines
        self.found = {}

    def behind(self, place, known):
        """What is known of the set behind the part at a place."""
        key = (place, known)
        if key not in self.found:
            self.found[key] = self.find_behind(place, known)
        return self.found[key]

    def find_behind(self, place, known):
        part = self.parts[place]
        if part.kind == STEP:
            return self.behind_step(place, known)
        if part.kind == BEHIND:
            return self.behind(part.b, self.behind(part.a, known))
        if part.kind == EITHER:
            return joined(self.behind(part.a, known), self.behind(part.b, known))
        if part.b == 0:
            return known
        return joined(known, self.settled(part.a, known))

    def behind_step(self, place, known):
        lines = self.lines[place]
        own = [line for line in lines if line % self.kind.sets == self.number]
        if not own:
            return known
        then = use_any(known, own, self.kind.ways)
        # A line of another set may be the one that is used: then this set is as before.
        return then if len(own) == len(lines) else joined(then, known)

    def settled(self, place, known):
        """What is known of the set behind the part, gone through once or more often, whichever it was."""
        now = self.behind(place, known)
        then = joined(now, self.behind(place, now))
        while then != now:
            now = then
            then = joined(now, self.behind(place, now))
        return now


class Cache:
    """A cache; what is known of it is a list of what is known of each of its sets."""

    def __init__(self, kind, parts, lines):
        self.kind = kind
        self.lines = lines
        self.all_sets = [OneSet(kind, number, parts, lines) for number in range(kind.sets)]

    def nothing(self):
        return [NOTHING for one in self.all_sets]

    def may_miss(self, place, known):
        """Whether one of the lines that the step at a place may use isn't known."""
        return any([not is_known(known[line % self.kind.sets], line) for line in self.lines[place]])

    def behind(self, place, known):
        return [one.behind(place, of_one) for one, of_one in zip(self.all_sets, known)]

    def settled(self, place, known):
        return [one.settled(place, of_one) for one, of_one in zip(self.all_sets, known)]


class Program:
    """A how that is right, to be gone through part by part."""

    def __init__(self, how):
        self.how = how
        self.code = Cache(how.code, how.parts, [code_lines(how.code, part) for part in how.parts])
        self.data = Cache(how.data, how.parts, [data_lines(how.data, part) for part in how.parts])

    def most(self, place, code, data):
        """How long the part at a place takes at most, from what is known of both caches."""
        part = self.how.parts[place]
        if part.kind == STEP:
            return self.most_of_step(place, code, data)
        if part.kind == BEHIND:
            first = self.most(part.a, code, data)
            return first + self.most(part.b, self.code.behind(part.a, code), self.data.behind(part.a, data))
        if part.kind == EITHER:
            return max(self.most(part.a, code, data), self.most(part.b, code, data))
        return self.most_of_loop(part, code, data)

    def most_of_step(self, place, code, data):
        longest = self.how.parts[place].b
        if self.code.may_miss(place, code):
            longest += self.how.code_miss
        if self.data.may_miss(place, data):
            longest += self.how.data_miss
        return longest

    def most_of_loop(self, loop, code, data):
        if loop.b == 0:
            return 0
        first = self.most(loop.a, code, data)
        again = self.most(loop.a, self.code.settled(loop.a, code), self.data.settled(loop.a, data))
        return first + (loop.b - 1) * again


def code_lines(kind, part):
    """The line of code that a step uses, in a list; of another part none."""
    return [line_of(kind, part.a)] if part.kind == STEP else []


def data_lines(kind, part):
    """The lines of data of which a step uses one; of another part none."""
    if part.kind != STEP or not has_bytes(part):
        return []
    return list(range(line_of(kind, part.c), line_of(kind, part.d) + 1))


def most_of_how(how):
    """How long the program of a how that is right takes at most, from nothing known."""
    program = Program(how)
    return program.most(len(how.parts) - 1, program.code.nothing(), program.data.nothing())
