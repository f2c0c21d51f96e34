"""Reads the one list of whole numbers in which calls are handed in."""

# By a call's number: its name, how many whole numbers it has, how many lists come behind them.
FORMS = (
    ("begins", 0, 0),
    ("size", 4, 0),
    ("paper", 6, 0),
    ("areas", 0, 1),
    ("titles", 1, 1),
    ("breaks", 1, 1),
    ("scale", 1, 0),
    ("fit", 2, 0),
    ("how", 4, 0),
    ("heads", 0, 2),
    ("pages", 0, 0),
    ("page", 1, 0),
    ("where", 2, 0),
    ("texts", 1, 0),
)


def read_calls(calls):
    """Give each call as its name, its whole numbers and its lists, all of them copies."""
    read = []
    place = 0
    while place < len(calls):
        form = FORMS[calls[place]]
        first = place + 1
        place = first + form[1]
        numbers = calls[first:place]
        lists = []
        for turn in range(form[2]):
            first = place + 1
            place = first + calls[place]
            lists.append(calls[first:place])
        read.append((form[0], numbers, lists))
    return read
