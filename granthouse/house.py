"""The house as it is at some moment; what has been done is kept in a log of its own."""

from granthouse.limits import MOST_DOOR


class House:
    def __init__(self):
        self.grants = []
        self.tickets = {}
        self.policies = {}
        self.quorums = {}
        self.allowed = {}
        for door in range(1, MOST_DOOR + 1):
            self.policies[door] = None
            self.quorums[door] = 0
            self.allowed[door] = {}
