"""All runs of a small program. A cache is a tuple of sets, each a tuple of lines, the one used last first."""

from second import kind, lines_of


def empty(cache):
    return ((),) * cache[1]


def use(cache, held, line):
    """Whether it's a hit, and the cache then."""
    line_size, sets, ways = cache
    number = line % sets
    lines = held[number]
    then = ((line,) + tuple(other for other in lines if other != line))[:ways]
    return line in lines, held[:number] + (then,) + held[number + 1:]


def run_step(how, part, code, data):
    """What may come of a step: how long it takes, and the caches then."""
    hit, code = use(kind(how, "code"), code, part[1] // 2 ** how["codeLine"])
    long = part[2] + (0 if hit else how["codeMiss"])
    if part[3] > part[4]:
        return [(long, code, data)]
    ends = []
    for line in lines_of(kind(how, "data"), part[3], part[4]):
        hit, then = use(kind(how, "data"), data, line)
        ends.append((long + (0 if hit else how["dataMiss"]), code, then))
    return ends


def merge(into, more):
    for caches, long in more.items():
        into[caches] = max(long, into.get(caches, 0))


def runs(how, parts, n, begun):
    """From caches and how long it took till there at most, to the same behind part n, over all its runs."""
    part = parts[n]
    ends = {}
    if part[0] == 0:
        for (code, data), before in begun.items():
            for long, code_then, data_then in run_step(how, part, code, data):
                merge(ends, {(code_then, data_then): before + long})
    elif part[0] == 1:
        ends = runs(how, parts, part[2], runs(how, parts, part[1], begun))
    elif part[0] == 2:
        merge(ends, runs(how, parts, part[1], begun))
        merge(ends, runs(how, parts, part[2], begun))
    else:
        merge(ends, begun)
        for turn in range(part[2]):
            begun = runs(how, parts, part[1], begun)
            merge(ends, begun)
    return ends


def longest(how, parts, code, data):
    return max(runs(how, parts, len(parts) - 1, {(code, data): 0}).values())


def longest_from_empty(how, parts):
    return longest(how, parts, empty(kind(how, "code")), empty(kind(how, "data")))
