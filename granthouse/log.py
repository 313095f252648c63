"""The log, and the house that comes of it.

A log is a list of calls, the one that was done as number 1 first.
"""

from granthouse.calls import ALLOW, GRANT, LEAVE, NARROW, OPENING, OVER, POLICY, QUORUM, REVOKE, TICKET
from granthouse.doings import (
    do_allow, do_grant, do_leave, do_narrow, do_open, do_over, do_policy, do_quorum, do_revoke, do_ticket,
)
from granthouse.house import House


def do_call(house, number, call):
    kind = call[0]
    if kind == GRANT:
        return do_grant(house, number, call[1], call[2], call[3], call[4])
    if kind == REVOKE:
        return do_revoke(house, number, call[1], call[2], call[3])
    if kind == OVER:
        return do_over(house, number, call[1], call[2], call[3])
    if kind == LEAVE:
        return do_leave(house, number, call[1])
    if kind == POLICY:
        return do_policy(house, number, call[1], call[2])
    if kind == QUORUM:
        return do_quorum(house, number, call[1], call[2])
    if kind == TICKET:
        return do_ticket(house, number, call[1], call[2], call[3], call[4])
    if kind == NARROW:
        return do_narrow(house, number, call[1], call[2], call[3], call[4])
    if kind == ALLOW:
        return do_allow(house, number, call[1], call[2])
    return do_open(house, number, call[1], call[2], call[3], call[4])


def house_at(log, moment):
    """The house when the first of the log, as many as the moment says, had been done."""
    house = House()
    for number, call in enumerate(log[:moment], start=1):
        do_call(house, number, call)
    return house


def openings_in(log):
    return [number for number, call in enumerate(log, start=1) if call[0] == OPENING]


def done_without(log, left_out):
    """The numbers of the log that are done if it's gone through without one of them."""
    house = House()
    done = []
    for number, call in enumerate(log, start=1):
        # Each keeps its own number: by these tickets are named, and grants stay in their order.
        if number != left_out and do_call(house, number, call) == number:
            done.append(number)
    return done


def hanging_on(log, left_out):
    done = done_without(log, left_out)
    return [number for number in openings_in(log) if number not in done]
