"""Calls as they are written one behind another in a list of whole numbers."""

NEW = 0
SAME = 1
DIFFER = 2
WHEN_BOUND = 3
WHEN_WHOLE = 4
WHEN_SURE = 5
VALUE = 6
RELATION = 7
TOLD = 8
WAITING = 9
MARK = 10
BACK = 11
CUT = 12

# By a call's number: how many whole numbers it has, and how many rows behind them.
WHOLE_NUMBERS = (1, 0, 0, 1, 1, 1, 0, 0, 0, 0, 0, 1, 1)
ROWS = (0, 2, 2, 1, 1, 2, 1, 2, 1, 0, 0, 0, 0)


class Call:
    """One call: which it is, its whole numbers, its rows, and where the list goes on behind it."""

    def __init__(self, which, numbers, rows, end):
        self.which = which
        self.numbers = numbers
        self.rows = rows
        self.end = end


def read_call(calls, start):
    """The call that begins at this place of the list."""
    which = calls[start]
    end = start + 1 + WHOLE_NUMBERS[which]
    numbers = calls[start + 1:end]
    rows = []
    for turn in range(ROWS[which]):
        first = end + 1
        end = first + calls[end]
        rows.append(calls[first:end])
    return Call(which, numbers, rows, end)


def handed_variables(call):
    """The numbers of the variables that stand in a call, each as often as it does."""
    # The one row of told is no term, but the variables themselves.
    if call.which == TOLD:
        return call.rows[0]
    numbers = []
    for row in call.rows:
        numbers.extend([row[place + 1] for place in range(0, len(row), 2) if row[place] == 0])
    return numbers
