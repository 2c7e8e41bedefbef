"""A run, made a second way: as the document's words stand, first all steps that are made, then how long they take."""

from runs import empty, use
from second import kind


class NoChoice(Exception):
    pass


def take(left, last):
    """The next choice; it goes from what's left of them, of which the next is the last."""
    if not left:
        raise NoChoice("wanting")
    choice = left.pop()
    if choice > last:
        raise NoChoice("isn't one")
    return choice


def steps_made(parts, n, left):
    """The steps that a run of part n makes, each with its byte, or None."""
    what, a, b, c, d = parts[n]
    if what == 0:
        return [(a, b, c + take(left, d - c) if c <= d else None)]
    if what == 1:
        return steps_made(parts, a, left) + steps_made(parts, b, left)
    if what == 2:
        return steps_made(parts, a if take(left, 1) == 0 else b, left)
    made = []
    for turn in range(take(left, b)):
        made += steps_made(parts, a, left)
    return made


def how_long(how, made):
    code, data = kind(how, "code"), kind(how, "data")
    in_code, in_data = empty(code), empty(data)
    long = 0
    for place, b, byte in made:
        long += b
        hit, in_code = use(code, in_code, place // 2 ** code[0])
        if not hit:
            long += how["codeMiss"]
        if byte is not None:
            hit, in_data = use(data, in_data, byte // 2 ** data[0])
            if not hit:
                long += how["dataMiss"]
    return long


def answered(how, parts, choices):
    """What tt_run is to answer, of a how that is right."""
    left = list(reversed(choices))
    try:
        made = steps_made(parts, len(parts) - 1, left)
    except NoChoice:
        return [0, -2]
    if left:
        return [0, -2]
    return [0, -28 if len(made) > 65536 else how_long(how, made)]
