"""When a user may open a door."""

from granthouse.grants import WITH_LEAVE, share
from granthouse.limits import is_door, is_request, is_user
from granthouse.policies import PERMIT, decide
from granthouse.tickets import all_hold


def is_asked_rightly(user, door, values):
    return is_user(user) and is_door(door) and is_request(values)


def maker_has_right(house, ticket):
    return share(house.grants, ticket.maker, ticket.door) > 0


def is_good(house, ticket, values):
    return maker_has_right(house, ticket) and all_hold(ticket.caveats, values)


def has_entry(house, user, door, ticket_number, values):
    """Whether the user has the right, or a good ticket for this door."""
    if ticket_number == 0:
        return share(house.grants, user, door) > 0
    ticket = house.tickets.get(ticket_number)
    if ticket is None:
        return False
    return ticket.holder == user and ticket.door == door and is_good(house, ticket, values)


def permits(house, door, values):
    policy = house.policies[door]
    return policy is None or decide(policy, values) == PERMIT


def allowers(house, user, door):
    others = [other for other in sorted(house.allowed[door]) if other != user]
    return [other for other in others if share(house.grants, other, door) == WITH_LEAVE]


def may_open(house, user, door, ticket_number, values):
    return (
        has_entry(house, user, door, ticket_number, values)
        and permits(house, door, values)
        and len(allowers(house, user, door)) >= house.quorums[door]
    )
