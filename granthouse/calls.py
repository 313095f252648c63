"""The calls as they stand in a list of numbers, and which doing each one is."""

from granthouse.doings import (
    do_allow, do_grant, do_leave, do_narrow, do_open, do_over, do_policy, do_quorum, do_revoke, do_ticket,
)

GRANT = 0
REVOKE = 1
OVER = 2
LEAVE = 3
POLICY = 4
QUORUM = 5
TICKET = 6
NARROW = 7
ALLOW = 8

# By a call's number: how many whole numbers it has, and whether a row stands behind them.
SHAPES = (
    (4, False),
    (3, False),
    (3, False),
    (1, False),
    (1, True),
    (2, False),
    (3, True),
    (3, True),
    (2, False),
    (3, True),
)


def read_call(reader):
    """The next call: its number, its whole numbers, and its row if it has one."""
    kind = reader.take()
    shape = SHAPES[kind]
    call = [kind] + reader.take_many(shape[0])
    if shape[1]:
        call.append(reader.take_row())
    return call


def do_call(house, number, call):
    kind = call[0]
    if kind == GRANT:
        return do_grant(house, number, call[1], call[2], call[3], call[4])
    if kind == REVOKE:
        return do_revoke(house, number, call[1], call[2], call[3])
    if kind == OVER:
        return do_over(house, number, call[1], call[2], call[3])
    if kind == LEAVE:
        return do_leave(house, number, call[1])
    if kind == POLICY:
        return do_policy(house, number, call[1], call[2])
    if kind == QUORUM:
        return do_quorum(house, number, call[1], call[2])
    if kind == TICKET:
        return do_ticket(house, number, call[1], call[2], call[3], call[4])
    if kind == NARROW:
        return do_narrow(house, number, call[1], call[2], call[3], call[4])
    if kind == ALLOW:
        return do_allow(house, number, call[1], call[2])
    return do_open(house, number, call[1], call[2], call[3], call[4])
