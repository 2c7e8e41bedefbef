"""Programs drawn at random, small enough to be gone through whole, and choices for them."""

from hows import TOP, USUAL


def draw_how(pick):
    how = dict(USUAL, codeMiss=pick.choice((0, 101, 101, 65535)), dataMiss=pick.choice((0, 10007, 10007, 65535)))
    for name in ("code", "data"):
        how[name + "Line"] = pick.choice((2, 2, 3, 4, 8))
        how[name + "Sets"] = pick.choice((1, 1, 2, 4, 16))
        how[name + "Ways"] = pick.choice((1, 1, 2, 3, 4, 8))
    return how


def draw_bytes(pick, how, widest):
    """The first and the last byte, in lines that are near one another; for some steps none."""
    if pick.random() < 0.2:
        return 1, 0
    line = 2 ** how["dataLine"]
    first = pick.choice((0, 0, 0, TOP + 1 - 80 * line)) + pick.randrange(8 * line)
    return first, first + pick.choice((0, 0, line - 1, line, pick.randrange(widest * line)))


def draw_step(pick, how, widest):
    line = 2 ** how["codeLine"]
    c, d = draw_bytes(pick, how, widest)
    return [0, pick.randrange(6) * line + pick.randrange(line), pick.choice((0, 1, 7, pick.randrange(65536))), c, d]


def draw_other(pick, n, often):
    """A part of other parts, mostly of the one just before it."""
    a, b = n - 1 - min(n - 1, pick.choice((0, 0, 0, 1, 2))), pick.randrange(n)
    kind = pick.choice((1, 1, 1, 2, 3))
    if kind == 3:
        return [3, a, pick.choice(often), pick.randrange(TOP), pick.randrange(TOP)]
    first, then = pick.sample((a, b), 2)
    return [kind, first, then, pick.randrange(TOP), pick.randrange(TOP)]


def size(parts):
    sizes = []
    for kind, a, b, c, d in parts:
        sizes.append(1 if kind == 0 else 1 + sizes[a] + sizes[a if kind == 3 else b])
    return sizes[-1]


def draw_program(pick, how, others, often=(0, 1, 1, 2, 3, 9), widest=6, largest=150):
    """Some steps, and up to so many parts behind them, but none that makes it too large."""
    parts = [draw_step(pick, how, widest) for turn in range(pick.randrange(1, 9))]
    for turn in range(pick.randrange(1, others + 1)):
        more = parts + [draw_other(pick, len(parts), often)]
        if size(more) <= largest:
            parts = more
    return parts


def steps_alone(pick, how):
    """Steps of at most one byte, one behind another, bound in whatever way."""
    parts = [draw_step(pick, how, 1) for turn in range(pick.randrange(1, 30))]
    for part in parts:
        part[4] = min(part[4], part[3])
    left = list(range(len(parts)))
    while len(left) > 1:
        place = pick.randrange(len(left) - 1)
        parts.append([1, left[place], left[place + 1], 0, 0])
        left[place:place + 2] = [len(parts) - 1]
    return parts


def choose(pick, choices, parts, n, enough):
    """Draws the choices of a run of part n; when there are enough, loops are gone through no more."""
    kind, a, b, c, d = parts[n]
    if kind == 0:
        if c <= d:
            choices.append(pick.choice((0, d - c, pick.randint(0, d - c))))
    elif kind == 1:
        choose(pick, choices, parts, a, enough)
        choose(pick, choices, parts, b, enough)
    elif kind == 2:
        choices.append(pick.randrange(2))
        choose(pick, choices, parts, (a, b)[choices[-1]], enough)
    else:
        choices.append(0 if len(choices) > enough else pick.choice((b, pick.randint(0, b))))
        for turn in range(choices[-1]):
            choose(pick, choices, parts, a, enough)


def draw_choices(pick, parts, enough=100):
    choices = []
    choose(pick, choices, parts, len(parts) - 1, enough)
    return choices


def spoil(pick, choices):
    """Choices that are most likely wrong now: one is too large, or another, some are wanting, or left over."""
    n = pick.randrange(len(choices) + 1)
    if pick.random() < 0.2:
        return choices + [pick.choice((0, 1, TOP))] * pick.choice((1, 1, 9))
    if pick.random() < 0.4:
        return pick.choice((choices[:-1], choices[:n], choices[1:], choices[:n] + choices[n + 1:]))
    other = pick.choice((0, 1, 2, 3, 4, 5, 10, 16, 64, 4097, TOP))
    return choices[:n] + [other] + choices[n + 1:]
