"""Grants of rights: who may give, what stands, taken back and taken over.

A list of grants is always in the order of their numbers.
"""

from granthouse.limits import HOUSE

WITH_LEAVE = 2


class Grant:
    def __init__(self, number, giver, taker, right, leave):
        self.number = number
        self.giver = giver
        self.taker = taker
        self.right = right
        self.leave = leave


def share(grants, user, right):
    """What the user has of the right: 2 with leave, 1 without, 0 if nothing."""
    return max([1 + grant.leave for grant in grants if grant.taker == user and grant.right == right], default=0)


def may_give(grants, giver, right):
    return giver == HOUSE or share(grants, giver, right) == WITH_LEAVE


def of_right(grants, right):
    return [grant for grant in grants if grant.right == right]


def is_given(grant, giver, taker, right):
    return grant.giver == giver and grant.taker == taker and grant.right == right


def any_given(grants, giver, taker, right):
    return any([is_given(grant, giver, taker, right) for grant in grants])


def without_given(grants, giver, taker, right):
    return [grant for grant in grants if not is_given(grant, giver, taker, right)]


def standing(grants):
    kept = []
    for grant in grants:
        if may_give(kept, grant.giver, grant.right):
            kept.append(grant)
    return kept


def taken_back(grants, giver, taker, right):
    return standing(without_given(grants, giver, taker, right))


def taken_over(grants, giver, taker, right):
    kept = []
    for grant in without_given(grants, giver, taker, right):
        if may_give(kept, grant.giver, grant.right):
            kept.append(grant)
        elif grant.right == right and grant.giver == taker and grant.taker != giver:
            # No asking whether the new giver may give: what let them give to the taker
            # stands ahead of all that the taker handed on.
            kept.append(Grant(grant.number, giver, grant.taker, right, grant.leave))
    return kept


def first_to(grants, user, right, leave):
    """The first grant that gives the user the right; only one with leave will do if leave is 1."""
    for grant in grants:
        if grant.taker == user and grant.right == right and grant.leave >= leave:
            return grant
    return None


def chain_to(grants, user, right):
    """The chain of the right to a user who has it, the house's grant first."""
    grant = first_to(grants, user, right, 0)
    found = [grant]
    # All grants stand, so each giver's first one with leave is ahead of what they gave: this comes to the house.
    while grant.giver != HOUSE:
        grant = first_to(grants, grant.giver, right, 1)
        found.append(grant)
    return list(reversed(found))


def without_user(grants, user):
    return standing([grant for grant in grants if grant.giver != user and grant.taker != user])
