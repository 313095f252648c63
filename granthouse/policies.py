"""What conditions and policies decide of a request.

A condition is (ALWAYS,), (RANGE, attribute, first, second), (ALL, conditions),
(ANY, conditions) or (NOT, condition); a policy is (RULE, effect, condition)
or (SET, way, target, policies).
"""

ALWAYS = 0
RANGE = 1
ALL = 2
ANY = 3
NOT = 4

RULE = 0
SET = 1

NOTHING = 0
PERMIT = 1
DENY = 2
UNCLEAR = 3

DENY_FIRST = 0
PERMIT_FIRST = 1
FIRST_TOLD = 2
ONLY_ONE = 3


def holds(condition, values):
    kind = condition[0]
    if kind == ALWAYS:
        return True
    if kind == RANGE:
        value = values[condition[1] - 1]
        return condition[2] <= value and value <= condition[3]
    if kind == NOT:
        return not holds(condition[1], values)
    found = [holds(part, values) for part in condition[1]]
    if kind == ALL:
        return all(found)
    return any(found)


def first_found(wanted, decisions):
    for decision in wanted:
        if decision in decisions:
            return decision
    return NOTHING


def put_together(way, decisions):
    if way == DENY_FIRST:
        return first_found((DENY, UNCLEAR, PERMIT), decisions)
    if way == PERMIT_FIRST:
        return first_found((PERMIT, UNCLEAR, DENY), decisions)
    told = [decision for decision in decisions if decision != NOTHING]
    if len(told) == 0:
        return NOTHING
    if way == FIRST_TOLD or len(told) == 1:
        return told[0]
    return UNCLEAR


def decide(policy, values):
    if not holds(policy[2], values):
        return NOTHING
    if policy[0] == RULE:
        return policy[1]
    return put_together(policy[1], [decide(part, values) for part in policy[3]])
