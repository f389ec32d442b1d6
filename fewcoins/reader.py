"""Calls, read one by one out of the list in which they lie one behind another."""

# For each call, by its number: how many whole numbers it has, and how many rows.
SHAPES = (
    (3, 0), (2, 0), (2, 0), (2, 0), (1, 0), (0, 2), (0, 1), (1, 1),
    (2, 1), (1, 0), (1, 0), (0, 0), (1, 0), (0, 0), (1, 0), (0, 0),
)


class Call:
    def __init__(self, kind, numbers, rows, behind):
        self.kind = kind
        self.numbers = numbers
        self.rows = rows
        self.behind = behind


def read_call(calls, place):
    kind = calls[place]
    shape = SHAPES[kind]
    behind = place + 1 + shape[0]
    numbers = calls[place + 1:behind]
    rows = []
    for which in range(shape[1]):
        begins = behind + 1
        behind = begins + calls[behind]
        rows.append(calls[begins:behind])
    return Call(kind, numbers, rows, behind)
