"""Many different lines of calls, the same ones each time."""

from tests.lines import (
    HOUSE, allow, answers, grant, leave, may, narrow, opening, over, policy, quorum, revoke, ticket, whole_line,
)

POLICIES = (
    [], [], [0, 1, 0], [0, 1, 1, 1, 0, 1], [0, 2, 0], [1, 0, 0, 2, 0, 1, 0, 0, 2, 1, 2, 2, 2],
    [1, 3, 1, 3, 0, 1, 1, 0, 1, 4, 1, 1, 2, 2],
)


class Dice:
    """Throws that are the same under every Python."""

    def __init__(self, seed):
        self.state = seed

    def throw(self, many):
        self.state = (self.state * 6364136223846793005 + 1442695040888963407) % 2 ** 64
        return (self.state >> 33) % many

    def one_of(self, choices):
        return choices[self.throw(len(choices))]

    def user(self):
        return 1 + self.throw(4)

    def door(self):
        return 1 + self.throw(4) // 3

    def values(self):
        return [self.throw(3) for attribute in range(4)]

    def caveats(self):
        row = []
        for turn in range(self.throw(3)):
            row += [self.throw(3), 1 + self.throw(3), self.throw(3)]
        return row


def giver(dice):
    return dice.one_of((HOUSE, dice.user(), dice.user()))


def some_doing(dice, tickets_made):
    """A call that may or may not be done; of each ticket that was made its number, who has it, and its door."""
    kind = dice.throw(24)
    number, holder, door = dice.one_of(tickets_made * 3 + [(1 + dice.throw(30), dice.user(), dice.door())])
    if kind < 5:
        return grant(giver(dice), dice.user(), dice.door(), int(dice.throw(4) > 0))
    if kind < 7:
        taking = dice.one_of((revoke, over))
        return taking(dice.one_of((HOUSE, HOUSE, dice.user())), dice.user(), dice.door())
    if kind < 8:
        return dice.one_of((leave(dice.user()), policy(dice.door(), dice.one_of(POLICIES))))
    if kind < 9:
        return quorum(dice.door(), dice.one_of((0, 0, 1, 1, 2)))
    if kind < 11:
        return ticket(dice.user(), dice.user(), dice.door(), dice.caveats())
    if kind < 12:
        return narrow(holder, number, dice.user(), dice.caveats())
    if kind < 15:
        return allow(dice.user(), dice.door())
    if kind < 19:
        return opening(holder, door, number, dice.values())
    return opening(dice.user(), dice.door(), 0, dice.values())


def some_asking(dice, most_ticket):
    return may(dice.user(), dice.door(), dice.one_of((0, dice.throw(most_ticket + 2))), dice.values())


def some_doings(seed, many):
    """Calls that do something or are refused, as many as wanted, and what each answers."""
    dice = Dice(seed)
    calls, given, tickets_made = [], [], []
    # Begun with some rights, without which nearly all would be refused.
    start = [grant(HOUSE, 1, 1, 1), grant(1, 2, 1, 1), grant(HOUSE, 3, 2, 1)]
    while len(calls) < many:
        calls.append(start[len(calls)] if len(calls) < len(start) else some_doing(dice, tickets_made))
        given.append(answers(whole_line(calls))[-1])
        if given[-1] > 0 and calls[-1][0] == 6:
            tickets_made.append((given[-1], calls[-1][2], calls[-1][3]))
        if given[-1] > 0 and calls[-1][0] == 7:
            source = [made for made in tickets_made if made[0] == calls[-1][2]][0]
            tickets_made.append((given[-1], calls[-1][3], source[2]))
    return calls, given


def some_log(seed, many):
    """Calls that are all done."""
    calls, given = some_doings(seed, many)
    return [call for call, number in zip(calls, given) if number > 0]
