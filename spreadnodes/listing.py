"""How calls stand one behind another in one list of whole numbers."""

# For each call by its number: how many whole numbers it has, then how many lists.
SHAPES = (
    (4, 0),
    (5, 1),
    (4, 2),
    (5, 1),
    (5, 2),
    (6, 2),
    (6, 2),
    (4, 2),
    (5, 1),
    (1, 0),
    (2, 0),
    (2, 0),
    (3, 1),
    (2, 1),
    (2, 1),
    (1, 1),
    (1, 0),
)


class Call:
    """One call: its number, its whole numbers, its lists, and where in the list of calls it ends."""

    def __init__(self, number, whole, lists, end):
        self.number = number
        self.whole = whole
        self.lists = lists
        self.end = end


def call_at(calls, start):
    """The call that begins there."""
    number = calls[start]
    shape = SHAPES[number]
    end = start + 1 + shape[0]
    whole = calls[start + 1:end]
    lists = []
    for turn in range(shape[1]):
        first = end + 1
        end = first + calls[end]
        lists.append(calls[first:end])
    return Call(number, whole, lists, end)
