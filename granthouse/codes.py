"""Reading a policy from its code."""

from granthouse.limits import ATTRIBUTES
from granthouse.policies import ALL, ALWAYS, ANY, DENY, NOT, ONLY_ONE, PERMIT, RANGE, RULE, SET
from granthouse.reader import Reader, TooFew

# A code of more than 200 numbers is refused alike, so this one number serves for both.
MOST_NUMBERS = 120
MOST_HOLDER_DEPTH = 9
MOST_RANGE_NUMBER = 1000
MOST_EDGES = 6


class BadCode(ValueError):
    """The numbers aren't one policy's code, or one that can't be laid."""


def check(fits):
    if not fits:
        raise BadCode("no code that can be laid")


def check_holder(depth):
    # Only sets, all, any and not lead deeper: with these at 9 at most, no part is deeper than 10.
    check(depth <= MOST_HOLDER_DEPTH)


def read_range(reader, ranges):
    attribute = reader.take()
    first = reader.take()
    second = reader.take()
    check(1 <= attribute and attribute <= ATTRIBUTES)
    check(first <= MOST_RANGE_NUMBER and second <= MOST_RANGE_NUMBER)
    found = (RANGE, attribute, first, second)
    ranges.append(found)
    return found


def read_condition(reader, depth, ranges):
    kind = reader.take()
    if kind == ALWAYS:
        return (ALWAYS,)
    if kind == RANGE:
        return read_range(reader, ranges)
    check(kind == ALL or kind == ANY or kind == NOT)
    check_holder(depth)
    if kind == NOT:
        return (NOT, read_condition(reader, depth + 1, ranges))
    many = reader.take()
    return (kind, [read_condition(reader, depth + 1, ranges) for turn in range(many)])


def read_policy(reader, depth, ranges):
    kind = reader.take()
    check(kind == RULE or kind == SET)
    choice = reader.take()
    if kind == RULE:
        check(choice == PERMIT or choice == DENY)
        return (RULE, choice, read_condition(reader, depth, ranges))
    check(choice <= ONLY_ONE)
    check_holder(depth)
    target = read_condition(reader, depth, ranges)
    many = reader.take()
    return (SET, choice, target, [read_policy(reader, depth + 1, ranges) for turn in range(many)])


def check_edges(ranges):
    for attribute in range(1, ATTRIBUTES + 1):
        own = [found for found in ranges if found[1] == attribute]
        edges = [found[2] for found in own] + [found[3] + 1 for found in own]
        check(len(set(edges)) <= MOST_EDGES)


def read_code(code):
    """The policy of this code; BadCode if it isn't just one that can be laid."""
    check(len(code) <= MOST_NUMBERS)
    reader = Reader(code)
    ranges = []
    try:
        policy = read_policy(reader, 0, ranges)
    except TooFew as e:
        raise BadCode("the code ends too early") from e
    check(reader.at_end())
    check_edges(ranges)
    return policy
