"""How the calls stand in the one list that is handed in."""

# For each call how many whole numbers it has, and how many rows behind them.
SHAPES = (
    (1, 0), (1, 1), (1, 0), (0, 1), (2, 1), (0, 0), (0, 0), (0, 0), (0, 0), (0, 0), (0, 0), (0, 2),
    (1, 2), (0, 2), (0, 2), (0, 2), (0, 4), (0, 0), (0, 0), (0, 0), (0, 0), (1, 0), (0, 0),
)


def read_rows(calls, place, count):
    """The rows that stand from place on, each with its length before it, and the place behind them."""
    rows = []
    for turn in range(count):
        begin = place + 1
        end = begin + calls[place]
        rows.append(calls[begin:end])
        place = end
    return rows, place


def read_calls(calls):
    """The calls in order, each as its number, its whole numbers and its rows."""
    found = []
    place = 0
    while place < len(calls):
        number = calls[place]
        singles, row_count = SHAPES[number]
        behind = place + 1 + singles
        numbers = calls[place + 1:behind]
        rows, place = read_rows(calls, behind, row_count)
        found.append((number, numbers, rows))
    return found
