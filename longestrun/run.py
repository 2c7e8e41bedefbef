"""A run of a program, its choices one after another.

Choices that aren't right are refused ahead of too many steps, so all choices are looked at, however
many steps are made meanwhile. But when too many were made it's no more asked how long it takes: from
there on only what takes a choice is run, so that the choices, not the steps, say when it ends.
"""

from longestrun.held import Held
from longestrun.right import BEHIND, EITHER, STEP, has_bytes

MOST_MADE = 65536


class WrongChoices(Exception):
    """A choice isn't one, choices are wanting, or some are left over."""


class TooManySteps(Exception):
    """More steps were made than a run may make."""


class Run:
    """A run of the program of a how that is right, from two empty caches."""

    def __init__(self, how, choice):
        self.how = how
        self.choice = choice
        self.taken = 0
        self.choosing = which_choose(how.parts)
        self.made = 0
        self.long = 0
        self.code = Held(how.code)
        self.data = Held(how.data)

    def choose(self, last):
        """The next choice, which may be from 0 to last."""
        if self.taken == len(self.choice) or self.choice[self.taken] > last:
            raise WrongChoices()
        self.taken += 1
        return self.choice[self.taken - 1]

    def matters(self, place):
        """Whether it still matters that the part at a place is run."""
        return self.made <= MOST_MADE or self.choosing[place]

    def run(self, place):
        """Runs the part at a place, as far as it matters."""
        if not self.matters(place):
            return
        part = self.how.parts[place]
        if part.kind == STEP:
            self.run_step(part)
        elif part.kind == BEHIND:
            self.run(part.a)
            self.run(part.b)
        elif part.kind == EITHER:
            self.run(part.a if self.choose(1) == 0 else part.b)
        else:
            self.run_loop(part)

    def run_step(self, step):
        self.made += 1
        self.long += step.b
        if not self.code.use(step.a):
            self.long += self.how.code_miss
        if has_bytes(step) and not self.data.use(step.c + self.choose(step.d - step.c)):
            self.long += self.how.data_miss

    def run_loop(self, loop):
        left = self.choose(loop.b)
        while left > 0 and self.matters(loop.a):
            self.run(loop.a)
            left -= 1


def chooses(part, choosing):
    """Whether a run of a part takes a choice, from which of the parts before it do."""
    if part.kind == STEP:
        return has_bytes(part)
    if part.kind == BEHIND:
        return choosing[part.a] or choosing[part.b]
    return True


def which_choose(parts):
    """Of each part whether a run of it takes a choice."""
    choosing = []
    for part in parts:
        choosing.append(chooses(part, choosing))
    return choosing


def long_of_run(how, choice):
    """How long a run takes, of a how that is right."""
    whole = Run(how, choice)
    whole.run(len(how.parts) - 1)
    if whole.taken < len(choice):
        raise WrongChoices()
    if whole.made > MOST_MADE:
        raise TooManySteps()
    return whole.long
