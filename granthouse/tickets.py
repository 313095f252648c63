"""Tickets and their caveats. A caveat is (kind, attribute, value)."""

from granthouse.limits import MOST_VALUE

MOST = 0
JUST = 1
LEAST = 2
CAVEAT_ATTRIBUTES = 3
CAVEAT_NUMBERS = 3
MOST_CAVEATS = 8


class Ticket:
    def __init__(self, number, maker, holder, door, source, caveats):
        self.number = number
        self.maker = maker
        self.holder = holder
        self.door = door
        self.source = source
        self.caveats = caveats


def held_by(tickets, user):
    return [ticket for ticket in tickets.values() if ticket.holder == user]


def caveats_of(row):
    return [(row[at], row[at + 1], row[at + 2]) for at in range(0, len(row), CAVEAT_NUMBERS)]


def is_caveat(caveat):
    return caveat[0] <= LEAST and 1 <= caveat[1] and caveat[1] <= CAVEAT_ATTRIBUTES and caveat[2] <= MOST_VALUE


def are_caveats(row):
    if len(row) % CAVEAT_NUMBERS != 0 or len(row) > MOST_CAVEATS * CAVEAT_NUMBERS:
        return False
    return all([is_caveat(caveat) for caveat in caveats_of(row)])


def caveat_holds(caveat, values):
    value = values[caveat[1] - 1]
    if caveat[0] == MOST:
        return value <= caveat[2]
    if caveat[0] == JUST:
        return value == caveat[2]
    return value >= caveat[2]


def all_hold(caveats, values):
    return all([caveat_holds(caveat, values) for caveat in caveats])
