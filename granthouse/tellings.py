"""The calls that tell something and do nothing: each answers a list of numbers, or a refusal alone."""

from granthouse.calls import ALLOWERS, CHAIN, GRANTS, HANG, MAY, OPENED, TICKETS, WAS
from granthouse.grants import chain_to, of_right, share
from granthouse.limits import NO_GRANT, UNKNOWN, WRONG, is_door, is_user
from granthouse.log import hanging_on, house_at, openings_in
from granthouse.openings import allowers, has_entry, is_asked_rightly, maker_has_right, may_open, permits
from granthouse.tickets import held_by


def counted(numbers):
    return [len(numbers)] + numbers


def tell_may(house, user, door, ticket_number, values):
    if not is_asked_rightly(user, door, values):
        return [WRONG]
    return [
        int(may_open(house, user, door, ticket_number, values)),
        int(has_entry(house, user, door, ticket_number, values)),
        int(permits(house, door, values)),
        len(allowers(house, user, door)),
    ]


def tell_was(log, moment, user, door, ticket_number, values):
    if moment > len(log):
        return [UNKNOWN]
    return tell_may(house_at(log, moment), user, door, ticket_number, values)


def tell_hang(log, number):
    if number == 0 or number > len(log):
        return [UNKNOWN]
    return counted(hanging_on(log, number))


def tell_opened(log):
    return counted(openings_in(log))


def tell_grants(house, right):
    if not is_door(right):
        return [WRONG]
    found = of_right(house.grants, right)
    told = [len(found)]
    for grant in found:
        told.extend([grant.number, grant.giver, grant.taker, grant.leave])
    return told


def ticket_row(house, ticket):
    row = [ticket.number, ticket.maker, ticket.door, ticket.source, int(maker_has_right(house, ticket))]
    row.append(len(ticket.caveats))
    for caveat in ticket.caveats:
        row.extend(caveat)
    return row


def tell_tickets(house, user):
    if not is_user(user):
        return [WRONG]
    found = held_by(house.tickets, user)
    told = [len(found)]
    for ticket in found:
        told.extend(ticket_row(house, ticket))
    return told


def tell_chain(house, user, right):
    if not (is_user(user) and is_door(right)):
        return [WRONG]
    if share(house.grants, user, right) == 0:
        return [NO_GRANT]
    return counted([grant.number for grant in chain_to(house.grants, user, right)])


def tell_allowers(house, user, door):
    if not (is_user(user) and is_door(door)):
        return [WRONG]
    return counted(allowers(house, user, door))


def tell_call(house, log, call):
    kind = call[0]
    if kind == MAY:
        return tell_may(house, call[1], call[2], call[3], call[4])
    if kind == WAS:
        return tell_was(log, call[1], call[2], call[3], call[4], call[5])
    if kind == HANG:
        return tell_hang(log, call[1])
    if kind == OPENED:
        return tell_opened(log)
    if kind == GRANTS:
        return tell_grants(house, call[1])
    if kind == TICKETS:
        return tell_tickets(house, call[1])
    if kind == CHAIN:
        return tell_chain(house, call[1], call[2])
    if kind == ALLOWERS:
        return tell_allowers(house, call[1], call[2])
    return [len(log)]
