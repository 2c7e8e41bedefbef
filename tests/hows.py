"""Ways to write a how in a test."""

from longestrun.desk import tt_most, tt_right

TOP = 4294967295
NAMES = ["codeLine", "codeSets", "codeWays", "codeNone", "dataLine", "dataSets", "dataWays", "dataNone",
         "codeMiss", "dataMiss", "none"]
USUAL = {"codeLine": 4, "codeSets": 4, "codeWays": 2, "codeNone": 0,
         "dataLine": 5, "dataSets": 2, "dataWays": 4, "dataNone": 0,
         "codeMiss": 10, "dataMiss": 20, "none": 0}
RIGHT = [0, 0]
WRONG = [0, -22]


def step(a=0, b=1, c=1, d=0):
    return [0, a, b, c, d]


def behind(a, b, c=0, d=0):
    return [1, a, b, c, d]


def either(a, b, c=0, d=0):
    return [2, a, b, c, d]


def loop(a, b, c=0, d=0):
    return [3, a, b, c, d]


def row(*parts):
    return [number for part in parts for number in part]


def numbers(changed):
    usual = dict(USUAL)
    usual.update(changed)
    return [usual[name] for name in NAMES]


def ask(part, **changed):
    return tt_right(*numbers(changed), part)


def most(part, **changed):
    return tt_most(*numbers(changed), part)
