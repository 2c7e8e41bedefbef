"""What is known of one set of a cache: which lines are surely in it, and how old each is at most.

It is told as a tuple of pairs, a line's number and its age, rising: so the same is always told
the same way, and can be a key.
"""

NOTHING = ()


def is_known(known, line):
    """Whether a line is surely in the set."""
    return any([other == line for other, age in known])


def age_of(known, line, ways):
    """The age of a line; ways, which is above every age, if nothing is known of it."""
    for other, age in known:
        if other == line:
            return age
    return ways


def use_line(known, line, ways):
    """What is known when a line of the set has been used."""
    used = age_of(known, line, ways)
    then = [(line, 0)]
    for other, age in known:
        older = age + 1 if age < used else age
        if other != line and older < ways:
            then.append((other, older))
    return tuple(sorted(then))


def joined(one, two):
    """What is known if it is either of two that are known."""
    ages = dict(one)
    return tuple([(line, max(age, ages[line])) for line, age in two if line in ages])


def use_any(known, lines, ways):
    """What is known when one of these lines of the set has been used; there is at least one."""
    then = use_line(known, lines[0], ways)
    for line in lines[1:]:
        then = joined(then, use_line(known, line, ways))
    return then
