"""The one list that holds all calls, cut call by call."""

BEGIN = 0
PUT = 1
ROW = 2
LEAD = 3
ORDER = 4
FITS = 5
COUNT = 6
HOLDS = 7
LAPS = 8
COMES = 9
ROUNDS = 10
ROUND_OF = 11
INNER = 12

# By a call's number: how many whole numbers it has, and how many rows behind these.
HOW_MANY_NUMBERS = (2, 2, 3, 1, 0, 0, 1, 0, 1, 0, 1, 2, 0, 0)
HOW_MANY_ROWS = (0, 0, 0, 0, 2, 1, 0, 1, 0, 1, 0, 0, 0, 0)


class Call:
    """A call's number, its whole numbers and its rows."""

    def __init__(self, number, numbers, rows):
        self.number = number
        self.numbers = numbers
        self.rows = rows


def cut_rows(calls, start, how_many):
    """The rows from start on, each behind its own length."""
    rows = []
    at = start
    for turn in range(how_many):
        end = at + 1 + calls[at]
        rows.append(calls[at + 1:end])
        at = end
    return rows


def cut_call(calls, start):
    """The call that begins at start."""
    number = calls[start]
    end = start + 1 + HOW_MANY_NUMBERS[number]
    rows = cut_rows(calls, end, HOW_MANY_ROWS[number])
    return Call(number, calls[start + 1:end], rows)


def length_of(call):
    """How many numbers of the list the call takes up."""
    return 1 + len(call.numbers) + sum([1 + len(row) for row in call.rows])


def cut_calls(calls):
    """All calls of the list, in order."""
    found = []
    at = 0
    while at < len(calls):
        call = cut_call(calls, at)
        found.append(call)
        at = at + length_of(call)
    return found
