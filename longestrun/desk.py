"""The calls, by the names and with the numbers that the document gives them."""

from longestrun.most import most_of_how
from longestrun.right import How, Kind, how_is_right, parts_from_numbers
from longestrun.run import TooManySteps, WrongChoices, long_of_run

RIGHT = 0
NOT_RIGHT = -22
WRONG_CHOICES = -2
TOO_MANY_STEPS = -28


def read_how(code, data, code_miss, data_miss, none, part):
    """The how that is handed in, of each cache the list of its four numbers."""
    code_kind = Kind(code[0], code[1], code[2], code[3])
    data_kind = Kind(data[0], data[1], data[2], data[3])
    return How(code_kind, data_kind, code_miss, data_miss, none, parts_from_numbers(part))


def tt_right(codeLine, codeSets, codeWays, codeNone, dataLine, dataSets, dataWays, dataNone,
             codeMiss, dataMiss, none, part):
    """Answers 0, and then 0 if the how is right, else -22."""
    how = read_how([codeLine, codeSets, codeWays, codeNone], [dataLine, dataSets, dataWays, dataNone],
                   codeMiss, dataMiss, none, part)
    return [0, RIGHT if how_is_right(how) else NOT_RIGHT]


def tt_most(codeLine, codeSets, codeWays, codeNone, dataLine, dataSets, dataWays, dataNone,
            codeMiss, dataMiss, none, part):
    """Answers 0, and then how long the program takes at most; -22 if the how isn't right."""
    how = read_how([codeLine, codeSets, codeWays, codeNone], [dataLine, dataSets, dataWays, dataNone],
                   codeMiss, dataMiss, none, part)
    return [0, most_of_how(how) if how_is_right(how) else NOT_RIGHT]


def tt_run(codeLine, codeSets, codeWays, codeNone, dataLine, dataSets, dataWays, dataNone,
           codeMiss, dataMiss, none, part, choice):
    """Answers 0, and then how long the run with these choices takes.

    In its place -22 if the how isn't right, -2 if the choices aren't, -28 if more than 65,536 steps were made.
    """
    how = read_how([codeLine, codeSets, codeWays, codeNone], [dataLine, dataSets, dataWays, dataNone],
                   codeMiss, dataMiss, none, part)
    if not how_is_right(how):
        return [0, NOT_RIGHT]
    try:
        return [0, long_of_run(how, choice)]
    except WrongChoices:
        return [0, WRONG_CHOICES]
    except TooManySteps:
        return [0, TOO_MANY_STEPS]
