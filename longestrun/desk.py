"""The calls, by the names and with the numbers that the document gives them."""

from longestrun.right import How, Kind, how_is_right, parts_from_numbers

RIGHT = 0
NOT_RIGHT = -22


def tt_right(codeLine, codeSets, codeWays, codeNone, dataLine, dataSets, dataWays, dataNone,
             codeMiss, dataMiss, none, part):
    """Answers 0, and then 0 if the how is right, else -22."""
    code = Kind(codeLine, codeSets, codeWays, codeNone)
    data = Kind(dataLine, dataSets, dataWays, dataNone)
    how = How(code, data, codeMiss, dataMiss, none, parts_from_numbers(part))
    return [0, RIGHT if how_is_right(how) else NOT_RIGHT]
