"""Building the calls of a line and reading its answers."""

from granthouse.doors import answers

MOST = 4294967295
HOUSE = 0
REQUEST = [0, 0, 0, 0]


def grant(a, b, r, p=0):
    return [0, a, b, r, p]


def revoke(a, b, r):
    return [1, a, b, r]


def over(a, b, r):
    return [2, a, b, r]


def leave(u):
    return [3, u]


def policy(r, code):
    return [4, r, len(code)] + list(code)


def quorum(r, k):
    return [5, r, k]


def ticket(a, b, r, caveats=()):
    return [6, a, b, r, len(caveats)] + list(caveats)


def narrow(a, n, b, caveats=()):
    return [7, a, n, b, len(caveats)] + list(caveats)


def allow(u, r):
    return [8, u, r]


def opening(u, r, n=0, values=REQUEST):
    return [9, u, r, n, len(values)] + list(values)


def whole_line(calls):
    line = []
    for call in calls:
        line.extend(call)
    return line


def said(*calls):
    """The one number that each of these calls answers."""
    given = answers(whole_line(calls))
    if given[0::2] != [1] * len(calls) or len(given) != 2 * len(calls):
        raise AssertionError(f"not one number for each call: {given}")
    return given[1::2]


def last(*calls):
    return said(*calls)[-1]
