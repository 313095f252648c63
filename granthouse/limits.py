"""The numbers that users, doors and requests keep to, and those that refusals answer."""

HOUSE = 0
MOST_USER = 12
MOST_DOOR = 4
ATTRIBUTES = 4
MOST_VALUE = 100000
MOST_DONE = 60
MOST_GRANTS = 14
MOST_QUORUM = 3

WRONG = -1
UNKNOWN = -2
NO_GRANT = -3
FULL = -5
MAY_NOT = -6


def is_user(number):
    return 1 <= number and number <= MOST_USER


def is_door(number):
    return 1 <= number and number <= MOST_DOOR


def is_request(values):
    return len(values) == ATTRIBUTES and all([value <= MOST_VALUE for value in values])
