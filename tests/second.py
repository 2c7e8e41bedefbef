"""How long at most, told a second way: as the document's words stand, one cache a dict of lines and ages."""


def kind(how, name):
    """A cache's line, sets and ways."""
    return how[name + "Line"], how[name + "Sets"], how[name + "Ways"]


def lines_of(cache, first, last):
    """The lines in which the bytes from first to last are."""
    return sorted({byte // 2 ** cache[0] for byte in range(first, last + 1)})


def use(cache, known, line):
    line_size, sets, ways = cache
    limit = known[line] if line in known else ways
    then = {}
    for other in known:
        same_set = other % sets == line % sets
        then[other] = known[other] + 1 if same_set and known[other] < limit else known[other]
    then[line] = 0
    return {other: then[other] for other in then if then[other] < ways}


def join(one, two):
    return {line: max(one[line], two[line]) for line in one if line in two}


def ca_use(cache, known, first, last):
    lines = lines_of(cache, first, last)
    out = use(cache, known, lines[0])
    for line in lines[1:]:
        out = join(out, use(cache, known, line))
    return all(line in known for line in lines), out


def a_step(how, part, known):
    code, data = known
    long = part[2]
    hit, code = ca_use(kind(how, "code"), code, part[1], part[1])
    if not hit:
        long += how["codeMiss"]
    if part[3] <= part[4]:
        hit, data = ca_use(kind(how, "data"), data, part[3], part[4])
        if not hit:
            long += how["dataMiss"]
    return long, (code, data)


def join_both(one, two):
    return join(one[0], two[0]), join(one[1], two[1])


def a_loop(how, parts, part, known):
    if part[2] == 0:
        return 0, known
    t, x = at_most(how, parts, part[1], known)
    while True:
        wider = join_both(x, at_most(how, parts, part[1], x)[1])
        if wider == x:
            break
        x = wider
    s = at_most(how, parts, part[1], x)[0]
    return t + (part[2] - 1) * s, join_both(known, x)


def at_most(how, parts, n, known):
    """How long part n takes at most from what's known of both, and what's known then."""
    part = parts[n]
    if part[0] == 0:
        return a_step(how, part, known)
    if part[0] == 3:
        return a_loop(how, parts, part, known)
    if part[0] == 1:
        long, between = at_most(how, parts, part[1], known)
        more, then = at_most(how, parts, part[2], between)
        return long + more, then
    one, two = at_most(how, parts, part[1], known), at_most(how, parts, part[2], known)
    return max(one[0], two[0]), join_both(one[1], two[1])


def told(how, parts):
    return [0, at_most(how, parts, len(parts) - 1, ({}, {}))[0]]
