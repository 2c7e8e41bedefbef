"""The calls, by the names and with the numbers that the document gives them."""

from longestrun.most import most_of_how
from longestrun.right import How, Kind, how_is_right, parts_from_numbers

RIGHT = 0
NOT_RIGHT = -22


def read_how(code, data, code_miss, data_miss, none, part):
    """The how that is handed in, of each cache the list of its four numbers."""
    code_kind = Kind(code[0], code[1], code[2], code[3])
    data_kind = Kind(data[0], data[1], data[2], data[3])
    return How(code_kind, data_kind, code_miss, data_miss, none, parts_from_numbers(part))


def tt_right(codeLine, codeSets, codeWays, codeNone, dataLine, dataSets, dataWays, dataNone,
             codeMiss, dataMiss, none, part):
    """Answers 0, and then 0 if the how is right, else -22."""
    how = read_how([codeLine, codeSets, codeWays, codeNone], [dataLine, dataSets, dataWays, dataNone],
                   codeMiss, dataMiss, none, part)
    return [0, RIGHT if how_is_right(how) else NOT_RIGHT]


def tt_most(codeLine, codeSets, codeWays, codeNone, dataLine, dataSets, dataWays, dataNone,
            codeMiss, dataMiss, none, part):
    """Answers 0, and then how long the program takes at most; -22 if the how isn't right."""
    how = read_how([codeLine, codeSets, codeWays, codeNone], [dataLine, dataSets, dataWays, dataNone],
                   codeMiss, dataMiss, none, part)
    return [0, most_of_how(how) if how_is_right(how) else NOT_RIGHT]
