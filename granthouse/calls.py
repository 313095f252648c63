"""The calls as they stand in a list of numbers."""

GRANT = 0
REVOKE = 1
OVER = 2
LEAVE = 3
POLICY = 4
QUORUM = 5
TICKET = 6
NARROW = 7
ALLOW = 8
OPENING = 9
MAY = 10
WAS = 11
HANG = 12
OPENED = 13
GRANTS = 14
TICKETS = 15
CHAIN = 16
ALLOWERS = 17

# By a call's number: how many whole numbers it has, and whether a row stands behind them.
SHAPES = (
    (4, False),
    (3, False),
    (3, False),
    (1, False),
    (1, True),
    (2, False),
    (3, True),
    (3, True),
    (2, False),
    (3, True),
    (3, True),
    (4, True),
    (1, False),
    (0, False),
    (1, False),
    (1, False),
    (2, False),
    (2, False),
    (0, False),
)


def read_call(reader):
    """The next call: its number, its whole numbers, and its row if it has one."""
    kind = reader.take()
    shape = SHAPES[kind]
    call = [kind] + reader.take_many(shape[0])
    if shape[1]:
        call.append(reader.take_row())
    return call


def does_something(call):
    return call[0] <= OPENING
