"""What a how is made of, and when it is right."""

FIELDS = 5

STEP = 0
BEHIND = 1
EITHER = 2
LOOP = 3

SET_COUNTS = (1, 2, 4, 8, 16)

MOST_MISS = 65535
MOST_PARTS = 64
MOST_STEP_TIME = 65535
MOST_TIMES = 4096
MOST_LINES = 64
MOST_SIZE = 1024
MOST_DEPTH = 32
MOST_STEPS = 4294967296


class Kind:
    """A kind of cache."""

    def __init__(self, line, sets, ways, none):
        self.line = line
        self.sets = sets
        self.ways = ways
        self.none = none


class Part:
    """A part of the program; what a, b, c and d mean hangs on its kind."""

    def __init__(self, kind, a, b, c, d):
        self.kind = kind
        self.a = a
        self.b = b
        self.c = c
        self.d = d


class How:
    """Two kinds of caches, what a miss costs in each, and the parts."""

    def __init__(self, code, data, code_miss, data_miss, none, parts):
        self.code = code
        self.data = data
        self.code_miss = code_miss
        self.data_miss = data_miss
        self.none = none
        self.parts = parts


class Measure:
    """How large and how deep a part is, and how many steps it makes at most."""

    def __init__(self, size, depth, steps):
        self.size = size
        self.depth = depth
        self.steps = steps


def parts_from_numbers(numbers):
    """The parts that a row tells, five numbers each."""
    parts = []
    for k in range(0, len(numbers), FIELDS):
        parts.append(Part(numbers[k], numbers[k + 1], numbers[k + 2], numbers[k + 3], numbers[k + 4]))
    return parts


def line_of(kind, byte):
    """The number of the line in which a byte of memory is."""
    return byte >> kind.line


def has_bytes(step):
    """Whether a step reads or writes any byte."""
    return step.c <= step.d


def count_lines(kind, step):
    """In how many lines the bytes of a step are."""
    if not has_bytes(step):
        return 0
    return line_of(kind, step.d) - line_of(kind, step.c) + 1


def kind_is_right(kind):
    """Whether a kind of cache is right."""
    return 2 <= kind.line <= 8 and kind.sets in SET_COUNTS and 1 <= kind.ways <= 8 and kind.none == 0


def part_is_right(part, place, data):
    """Whether the part at a place is as told; data is a kind that is right."""
    if part.kind == STEP:
        return part.b <= MOST_STEP_TIME and count_lines(data, part) <= MOST_LINES
    if part.kind == BEHIND or part.kind == EITHER:
        return part.a < place and part.b < place
    if part.kind == LOOP:
        return part.a < place and part.b <= MOST_TIMES
    return False


def parts_are_right(parts, data):
    """Whether there are as many parts as there may be, each as told."""
    if not 1 <= len(parts) <= MOST_PARTS:
        return False
    return all([part_is_right(part, place, data) for place, part in enumerate(parts)])


def measure_part(part, measures):
    """The measure of a part, from those of the parts before it."""
    if part.kind == STEP:
        return Measure(1, 1, 1)
    a = measures[part.a]
    if part.kind == LOOP:
        return Measure(2 * a.size + 1, a.depth + 1, part.b * a.steps)
    b = measures[part.b]
    steps = a.steps + b.steps if part.kind == BEHIND else max(a.steps, b.steps)
    return Measure(a.size + b.size + 1, max(a.depth, b.depth) + 1, steps)


def measure_program(parts):
    """The measure of the last part, of parts that are as told."""
    # Each part is measured once, in order: walked down from the last part, one
    # that is used at many places would be measured as often as it is used.
    measures = []
    for part in parts:
        measures.append(measure_part(part, measures))
    return measures[-1]


def program_is_right(parts):
    """Whether the last part is small enough, of parts that are as told."""
    program = measure_program(parts)
    return program.size <= MOST_SIZE and program.depth <= MOST_DEPTH and program.steps <= MOST_STEPS


def how_is_right(how):
    """Whether a how is right."""
    if not kind_is_right(how.code) or not kind_is_right(how.data):
        return False
    if how.code_miss > MOST_MISS or how.data_miss > MOST_MISS or how.none != 0:
        return False
    # Parts that aren't as told can't be measured: they may name no part before them.
    return parts_are_right(how.parts, how.data) and program_is_right(how.parts)
