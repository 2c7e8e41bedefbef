"""Ways to write a how in a test."""

from longestrun.desk import tt_most, tt_right, tt_run

TOP = 4294967295
NAMES = ["codeLine", "codeSets", "codeWays", "codeNone", "dataLine", "dataSets", "dataWays", "dataNone",
         "codeMiss", "dataMiss", "none"]
USUAL = {"codeLine": 4, "codeSets": 4, "codeWays": 2, "codeNone": 0,
         "dataLine": 5, "dataSets": 2, "dataWays": 4, "dataNone": 0,
         "codeMiss": 10, "dataMiss": 20, "none": 0}
RIGHT = [0, 0]
WRONG = [0, -22]
NO_CHOICE = [0, -2]
TOO_MANY = [0, -28]

CODE = 100
DATA = 10000
# For what is worked out by hand: a line of either cache has 16 bytes; there is one set with two places.
PLAIN = {"codeLine": 4, "codeSets": 1, "codeWays": 2, "dataLine": 4, "dataSets": 1, "dataWays": 2,
         "codeMiss": CODE, "dataMiss": DATA}


def step(a=0, b=1, c=1, d=0):
    return [0, a, b, c, d]


def behind(a, b, c=0, d=0):
    return [1, a, b, c, d]


def either(a, b, c=0, d=0):
    return [2, a, b, c, d]


def loop(a, b, c=0, d=0):
    return [3, a, b, c, d]


def at(line, b=1):
    """A step without a byte, whose instruction is in a line of code of 16 bytes."""
    return step(16 * line + 4, b)


def on(first, last=None, b=1):
    """A step at byte 0 that uses a byte in one of these lines of data of 16 bytes."""
    return step(0, b, 16 * first, 16 * (first if last is None else last) + 15)


def row(*parts):
    return [number for part in parts for number in part]


def chain(*steps):
    """The steps one behind another, as a row."""
    last = 0
    parts = list(steps)
    for place in range(1, len(steps)):
        parts.append(behind(last, place))
        last = len(parts) - 1
    return row(*parts)


def numbers(changed):
    usual = dict(USUAL)
    usual.update(changed)
    return [usual[name] for name in NAMES]


def ask(part, **changed):
    return tt_right(*numbers(changed), part)


def most(part, **changed):
    return tt_most(*numbers(changed), part)


def run(part, choice, **changed):
    return tt_run(*numbers(changed), part, choice)
