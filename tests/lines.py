"""Building the calls of a line and reading its answers."""

from granthouse.doors import answers

MOST = 4294967295
HOUSE = 0
REQUEST = [0, 0, 0, 0]


def grant(a, b, r, p=0):
    return [0, a, b, r, p]


def revoke(a, b, r):
    return [1, a, b, r]


def over(a, b, r):
    return [2, a, b, r]


def leave(u):
    return [3, u]


def policy(r, code):
    return [4, r, len(code)] + list(code)


def quorum(r, k):
    return [5, r, k]


def ticket(a, b, r, caveats=()):
    return [6, a, b, r, len(caveats)] + list(caveats)


def narrow(a, n, b, caveats=()):
    return [7, a, n, b, len(caveats)] + list(caveats)


def allow(u, r):
    return [8, u, r]


def opening(u, r, n=0, values=REQUEST):
    return [9, u, r, n, len(values)] + list(values)


def may(u, r, n=0, values=REQUEST):
    return [10, u, r, n, len(values)] + list(values)


def was(m, u, r, n=0, values=REQUEST):
    return [11, m, u, r, n, len(values)] + list(values)


def hang(n):
    return [12, n]


def opened():
    return [13]


def grants(r):
    return [14, r]


def tickets(u):
    return [15, u]


def chain(u, r):
    return [16, u, r]


def allowers(u, r):
    return [17, u, r]


def length():
    return [18]


def whole_line(calls):
    line = []
    for call in calls:
        line.extend(call)
    return line


def told(*calls):
    """All the numbers that each of these calls answers, a list for each."""
    given = answers(whole_line(calls))
    each = []
    at = 0
    while at < len(given):
        many = given[at]
        each.append(given[at + 1:at + 1 + many])
        if many < 1 or len(each[-1]) != many:
            raise AssertionError(f"not as many numbers as it says: {given}")
        at += 1 + many
    if len(each) != len(calls):
        raise AssertionError(f"not one answer for each call: {given}")
    return each


def last_told(*calls):
    return told(*calls)[-1]


def said(*calls):
    """The one number that each of these calls answers."""
    given = answers(whole_line(calls))
    if given[0::2] != [1] * len(calls) or len(given) != 2 * len(calls):
        raise AssertionError(f"not one number for each call: {given}")
    return given[1::2]


def last(*calls):
    return said(*calls)[-1]
