"""How the calls stand in the one list that is handed in."""

# Of each call: how many whole numbers it has, and how many rows behind them.
SHAPES = {
    1: (1, 1),
    2: (5, 2),
    3: (1, 0),
    4: (2, 0),
    5: (0, 0),
    6: (0, 0),
    7: (1, 1),
    8: (1, 1),
    9: (1, 0),
    10: (1, 0),
    11: (1, 0),
    12: (0, 0),
    13: (1, 0),
    14: (0, 0),
}


class Call:
    """One call: its number, its whole numbers, its rows of numbers."""

    def __init__(self, number, numbers, rows):
        self.number = number
        self.numbers = numbers
        self.rows = rows


def read_rows(calls, at, how_many):
    """The rows that stand from a place on, each with its length ahead."""
    rows = []
    for step in range(how_many):
        end = at + 1 + calls[at]
        rows.append(calls[at + 1:end])
        at = end
    return rows


def read_calls(calls):
    """The calls of a list, one behind another; all that they hold is copied."""
    found = []
    at = 0
    while at < len(calls):
        shape = SHAPES[calls[at]]
        rows_begin = at + 1 + shape[0]
        rows = read_rows(calls, rows_begin, shape[1])
        found.append(Call(calls[at], calls[at + 1:rows_begin], rows))
        at = rows_begin + sum([1 + len(row) for row in rows])
    return found
