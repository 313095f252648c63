"""The calls that do something.

Each is handed the number that its doing is to have, and answers it; or it answers
a refusal and leaves the house as it was.
"""

from granthouse.codes import BadCode, read_code
from granthouse.grants import (
    WITH_LEAVE, Grant, any_given, may_give, of_right, share, taken_back, taken_over, without_user,
)
from granthouse.limits import (
    FULL, MAY_NOT, MOST_GRANTS, MOST_QUORUM, MOST_USER, NO_GRANT, UNKNOWN, WRONG, is_door, is_user,
)
from granthouse.openings import is_asked_rightly, may_open
from granthouse.tickets import MOST_CAVEATS, Ticket, are_caveats, caveats_of


def is_gift(giver, taker, right):
    return giver <= MOST_USER and is_user(taker) and is_door(right) and giver != taker


def do_grant(house, number, giver, taker, right, leave):
    if not is_gift(giver, taker, right) or leave > 1:
        return WRONG
    if not may_give(house.grants, giver, right):
        return MAY_NOT
    if len(of_right(house.grants, right)) >= MOST_GRANTS:
        return FULL
    house.grants.append(Grant(number, giver, taker, right, leave))
    return number


def gift_refusal(house, giver, taker, right):
    """Why there is nothing to take back or over; 0 if there is."""
    if not is_gift(giver, taker, right):
        return WRONG
    if not any_given(house.grants, giver, taker, right):
        return NO_GRANT
    return 0


def do_revoke(house, number, giver, taker, right):
    refusal = gift_refusal(house, giver, taker, right)
    if refusal != 0:
        return refusal
    house.grants = taken_back(house.grants, giver, taker, right)
    return number


def do_over(house, number, giver, taker, right):
    refusal = gift_refusal(house, giver, taker, right)
    if refusal != 0:
        return refusal
    house.grants = taken_over(house.grants, giver, taker, right)
    return number


def do_leave(house, number, user):
    if not is_user(user):
        return WRONG
    house.grants = without_user(house.grants, user)
    return number


def do_policy(house, number, door, code):
    if not is_door(door):
        return WRONG
    if len(code) == 0:
        house.policies[door] = None
        return number
    try:
        house.policies[door] = read_code(code)
    except BadCode:
        return WRONG
    return number


def do_quorum(house, number, door, quorum):
    if not is_door(door) or quorum > MOST_QUORUM:
        return WRONG
    house.quorums[door] = quorum
    return number


def do_ticket(house, number, maker, holder, door, row):
    if not (is_user(maker) and is_user(holder) and is_door(door) and are_caveats(row)):
        return WRONG
    if share(house.grants, maker, door) == 0:
        return MAY_NOT
    house.tickets[number] = Ticket(number, maker, holder, door, 0, caveats_of(row))
    return number


def do_narrow(house, number, user, source, holder, row):
    if not (is_user(user) and is_user(holder) and are_caveats(row)):
        return WRONG
    ticket = house.tickets.get(source)
    if ticket is None:
        return UNKNOWN
    if ticket.holder != user:
        return MAY_NOT
    caveats = ticket.caveats + caveats_of(row)
    if len(caveats) > MOST_CAVEATS:
        return WRONG
    house.tickets[number] = Ticket(number, ticket.maker, holder, ticket.door, source, caveats)
    return number


def do_allow(house, number, user, door):
    if not (is_user(user) and is_door(door)):
        return WRONG
    if share(house.grants, user, door) != WITH_LEAVE:
        return MAY_NOT
    house.allowed[door][user] = True
    return number


def do_open(house, number, user, door, ticket_number, values):
    if not is_asked_rightly(user, door, values):
        return WRONG
    if ticket_number != 0 and house.tickets.get(ticket_number) is None:
        return UNKNOWN
    if not may_open(house, user, door, ticket_number, values):
        return MAY_NOT
    house.allowed[door] = {}
    return number
