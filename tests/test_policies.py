"""Promise 2: policy and quorum, and what policies decide."""

import unittest

from granthouse.codes import BadCode, read_code
from granthouse.policies import decide, put_together
from tests.lines import HOUSE, MOST, REQUEST, grant, last, opening, policy, quorum, said

ALWAYS = [0]
NEVER = [3, 0]
PERMIT = [0, 1, 0]
DENY = [0, 2, 0]


def between(attribute, first, second):
    return [1, attribute, first, second]


def joined(codes):
    numbers = []
    for code in codes:
        numbers += code
    return numbers


def all_of(*conditions):
    return [2, len(conditions)] + joined(conditions)


def any_of(*conditions):
    return [3, len(conditions)] + joined(conditions)


def negated(condition):
    return [4] + condition


def rule(effect, condition):
    return [0, effect] + condition


def set_of(way, *policies, target=ALWAYS):
    return [1, way] + target + [len(policies)] + joined(policies)


BOTH = set_of(3, PERMIT, PERMIT)
NEITHER = rule(1, NEVER)
OF_DECISION = (NEITHER, PERMIT, DENY, BOTH)


def opens(code, values=REQUEST):
    """Whether a door with this policy is opened for these values."""
    given = said(grant(HOUSE, 1, 1), policy(1, code), opening(1, 1, 0, values))
    if given[:2] != [1, 2] or given[2] not in (3, -6):
        raise AssertionError(f"not laid and tried: {given}")
    return given[2] == 3


def laid(code):
    return last(policy(1, code))


def decided(code, values=REQUEST):
    return decide(read_code(code), values)


class Conditions(unittest.TestCase):
    def test_always(self):
        self.assertTrue(opens(rule(1, ALWAYS)))

    def test_a_range_holds_with_both_its_ends(self):
        for attribute in (1, 2, 3, 4):
            for value, wanted in ((0, False), (4, False), (5, True), (7, True), (9, True), (10, False),
                                  (100000, False)):
                values = [7, 7, 7, 7] if not wanted else [0, 0, 0, 0]
                values[attribute - 1] = value
                with self.subTest(values=values):
                    self.assertEqual(opens(rule(1, between(attribute, 5, 9)), values), wanted)

    def test_a_range_of_one_value_and_one_turned_round(self):
        self.assertTrue(opens(rule(1, between(1, 5, 5)), [5, 0, 0, 0]))
        for value in (3, 5, 7):
            self.assertFalse(opens(rule(1, between(1, 7, 3)), [value, 0, 0, 0]))

    def test_all(self):
        low, high = between(1, 0, 10), between(2, 20, 30)
        self.assertTrue(opens(rule(1, all_of(low, high)), [10, 20, 0, 0]))
        self.assertFalse(opens(rule(1, all_of(low, high)), [11, 20, 0, 0]))
        self.assertFalse(opens(rule(1, all_of(low, high)), [10, 19, 0, 0]))

    def test_any(self):
        low, high = between(1, 0, 10), between(2, 20, 30)
        self.assertTrue(opens(rule(1, any_of(low, high)), [10, 0, 0, 0]))
        self.assertTrue(opens(rule(1, any_of(low, high)), [11, 20, 0, 0]))
        self.assertFalse(opens(rule(1, any_of(low, high)), [11, 19, 0, 0]))

    def test_all_and_any_of_none(self):
        self.assertTrue(opens(rule(1, all_of())))
        self.assertFalse(opens(rule(1, any_of())))
        self.assertFalse(opens(rule(1, negated(all_of()))))
        self.assertTrue(opens(rule(1, negated(any_of()))))

    def test_not(self):
        self.assertFalse(opens(rule(1, negated(ALWAYS))))
        self.assertTrue(opens(rule(1, negated(between(1, 5, 9))), [4, 0, 0, 0]))
        self.assertFalse(opens(rule(1, negated(between(1, 5, 9))), [5, 0, 0, 0]))

    def test_conditions_within_conditions(self):
        code = rule(1, all_of(any_of(between(1, 1, 1), negated(between(2, 2, 2))), between(3, 3, 3)))
        self.assertTrue(opens(code, [1, 2, 3, 0]))
        self.assertTrue(opens(code, [0, 0, 3, 0]))
        self.assertFalse(opens(code, [0, 2, 3, 0]))
        self.assertFalse(opens(code, [1, 2, 4, 0]))


class Decisions(unittest.TestCase):
    def test_a_door_without_policy_permits(self):
        self.assertEqual(last(grant(HOUSE, 1, 1), opening(1, 1)), 2)

    def test_only_permit_permits(self):
        self.assertEqual([opens(code) for code in OF_DECISION], [False, True, False, False])
        self.assertEqual([decided(code) for code in OF_DECISION], [0, 1, 2, 3])

    def test_a_set_whose_target_fails_decides_nothing(self):
        target = between(1, 5, 9)
        for way in range(4):
            self.assertEqual(decided(set_of(way, PERMIT, target=target), [5, 0, 0, 0]), 1)
            self.assertEqual(decided(set_of(way, PERMIT, target=target), [4, 0, 0, 0]), 0)
            self.assertTrue(opens(set_of(way, PERMIT, target=target), [5, 0, 0, 0]))
            self.assertFalse(opens(set_of(way, PERMIT, target=target), [4, 0, 0, 0]))
            # Told ahead of a permit in way 3, only what decides nothing lets it through.
            self.assertTrue(opens(set_of(3, set_of(way, PERMIT, target=target), PERMIT), [4, 0, 0, 0]))

    def test_a_set_of_no_policies_decides_nothing(self):
        for way in range(4):
            self.assertEqual(decided(set_of(way)), 0)
            self.assertFalse(opens(set_of(way)))
            self.assertTrue(opens(set_of(3, set_of(way), PERMIT)))

    def test_one_policy_alone_decides_in_every_way(self):
        for way in range(4):
            for decision, code in enumerate(OF_DECISION):
                self.assertEqual(decided(set_of(way, code)), decision)
                self.assertEqual(opens(set_of(way, code)), decision == 1)

    def check_way(self, way, wanted):
        for decisions, together in wanted:
            with self.subTest(way=way, decisions=decisions):
                self.assertEqual(put_together(way, list(decisions)), together)
                code = set_of(way, *[OF_DECISION[decision] for decision in decisions])
                self.assertEqual(decided(code), together)
                self.assertEqual(opens(code), together == 1)

    def test_way_0_lets_a_deny_win(self):
        self.check_way(0, (
            ((0, 0), 0), ((0, 1), 1), ((1, 0), 1), ((1, 1), 1), ((1, 2), 2), ((2, 1), 2), ((0, 2), 2), ((2, 2), 2),
            ((1, 3), 3), ((3, 1), 3), ((0, 3), 3), ((3, 2), 2), ((2, 3), 2), ((1, 3, 2), 2), ((1, 0, 1), 1)))

    def test_way_1_lets_a_permit_win(self):
        self.check_way(1, (
            ((0, 0), 0), ((0, 1), 1), ((1, 0), 1), ((1, 1), 1), ((1, 2), 1), ((2, 1), 1), ((0, 2), 2), ((2, 2), 2),
            ((1, 3), 1), ((3, 1), 1), ((0, 3), 3), ((3, 2), 3), ((2, 3), 3), ((2, 3, 1), 1), ((2, 0, 2), 2)))

    def test_way_2_takes_the_first_that_decides(self):
        self.check_way(2, (
            ((0, 0), 0), ((0, 1), 1), ((1, 0), 1), ((1, 1), 1), ((1, 2), 1), ((2, 1), 2), ((0, 2), 2), ((2, 2), 2),
            ((1, 3), 1), ((3, 1), 3), ((0, 3), 3), ((3, 2), 3), ((2, 3), 2), ((0, 0, 1, 2), 1), ((0, 2, 1), 2)))

    def test_way_3_takes_the_only_one_that_decides(self):
        self.check_way(3, (
            ((0, 0), 0), ((0, 1), 1), ((1, 0), 1), ((1, 1), 3), ((1, 2), 3), ((2, 1), 3), ((0, 2), 2), ((2, 2), 3),
            ((1, 3), 3), ((3, 1), 3), ((0, 3), 3), ((3, 2), 3), ((2, 3), 3), ((0, 1, 0), 1), ((1, 0, 1), 3)))

    def test_sets_within_sets(self):
        code = set_of(2, set_of(0, PERMIT, rule(2, between(1, 5, 9))), PERMIT, target=between(2, 1, 1))
        self.assertTrue(opens(code, [4, 1, 0, 0]))
        self.assertFalse(opens(code, [5, 1, 0, 0]))
        self.assertFalse(opens(code, [4, 0, 0, 0]))


class Laying(unittest.TestCase):
    def test_the_policy_is_of_its_door_alone(self):
        self.assertEqual(
            said(grant(HOUSE, 1, 1), grant(HOUSE, 1, 2), policy(1, DENY), opening(1, 1), opening(1, 2)),
            [1, 2, 3, -6, 4])

    def test_another_policy_takes_its_place_and_none_takes_it_away(self):
        self.assertEqual(
            said(grant(HOUSE, 1, 4), policy(4, DENY), opening(1, 4), policy(4, PERMIT), opening(1, 4),
                 policy(4, DENY), opening(1, 4), policy(4, []), opening(1, 4), policy(4, [])),
            [1, 2, -6, 3, 4, 5, -6, 6, 7, 8])

    def test_a_refusal_leaves_the_policy_as_it_was(self):
        self.assertEqual(
            said(grant(HOUSE, 1, 1), policy(1, DENY), policy(1, PERMIT + [0]), policy(1, [0, 1]), opening(1, 1),
                 policy(1, PERMIT), policy(1, [1, 0, 0, 1]), opening(1, 1)),
            [1, 2, -1, -1, -6, 3, -1, 4])

    def test_no_such_door(self):
        for door in (0, 5, MOST):
            for code in (PERMIT, [], [7]):
                self.assertEqual(said(policy(door, code), policy(1, PERMIT)), [-1, 1])

    def test_numbers_that_are_not_just_one_policys_code(self):
        for code in (
            [0], [0, 1], [1], [1, 0], [1, 0, 0], [1, 0, 0, 1], [1, 0, 0, 1, 0, 1], [1, 0, 0, 2] + PERMIT,
            PERMIT + [0], PERMIT + PERMIT, set_of(0, PERMIT) + PERMIT, [1, 0, 0, 0, 0],
            [2, 1, 0], [2, 1, 0, 0], [2, 0, 0, 1] + PERMIT, [MOST, 1, 0], [MOST, 1, 0, 0], [0, 0, 0], [0, 3, 0],
            [0, MOST, 0], [0, 1, 5], [0, 1, 5, 0], [0, 1, 5, 1, 0], [0, 1, MOST], [0, 1, MOST, 0],
            [0, 1, 1], [0, 1, 1, 1], [0, 1, 1, 1, 0], [0, 1, 2], [0, 1, 3], [0, 1, 4], [0, 1, 2, 1], [0, 1, 3, 2, 0],
            [0, 1, 2, MOST, 0], [0, 1, 3, MOST], [1, 0, 0, MOST], [1, 0, 0, MOST] + PERMIT, [1, 0, 5, 0],
        ):
            with self.subTest(code=code):
                self.assertEqual(said(policy(1, code), policy(1, PERMIT)), [-1, 1])

    def test_effects_ways_and_attributes(self):
        self.assertEqual([laid(rule(effect, ALWAYS)) for effect in (0, 1, 2, 3, MOST)], [-1, 1, 1, -1, -1])
        self.assertEqual([laid(set_of(way, PERMIT)) for way in (0, 3, 4, MOST)], [1, 1, -1, -1])
        self.assertEqual([laid(rule(1, between(k, 1, 2))) for k in (0, 1, 4, 5, MOST)], [-1, 1, 1, -1, -1])

    def test_the_numbers_of_ranges(self):
        self.assertEqual(laid(rule(1, between(1, 1000, 1000))), 1)
        self.assertEqual(laid(rule(1, between(1, 0, 0))), 1)
        self.assertEqual(laid(rule(1, between(1, 1001, 1000))), -1)
        self.assertEqual(laid(rule(1, between(1, 1000, 1001))), -1)
        self.assertEqual(laid(rule(1, between(1, MOST, MOST))), -1)
        self.assertTrue(opens(rule(1, between(1, 1000, 1000)), [1000, 0, 0, 0]))

    def test_how_many_numbers(self):
        # Four numbers and as many of always as fill them up.
        for many, answer in ((119, 1), (120, 1), (121, -1), (199, -1), (200, -1), (201, -1), (220, -1)):
            code = rule(1, all_of(*[ALWAYS] * (many - 4)))
            self.assertEqual(len(code), many)
            self.assertEqual(laid(code), answer)
        self.assertTrue(opens(rule(1, all_of(*[ALWAYS] * 116))))

    def test_depths_of_conditions(self):
        for holder in (lambda part: all_of(part), lambda part: any_of(part), negated):
            for inner in (ALWAYS, between(1, 1, 2)):
                self.assertEqual(laid(rule(1, nested(holder, inner, 10))), 1)
                self.assertEqual(laid(rule(1, nested(holder, inner, 11))), -1)
            for empty in (all_of(), any_of()):
                self.assertEqual(laid(rule(1, nested(holder, empty, 9))), 1)
                self.assertEqual(laid(rule(1, nested(holder, empty, 10))), -1)
        self.assertTrue(opens(rule(1, nested(negated, ALWAYS, 10))))

    def test_depths_of_policies(self):
        def holder(part):
            return set_of(0, part)
        self.assertEqual(laid(nested(holder, PERMIT, 10)), 1)
        self.assertEqual(laid(nested(holder, PERMIT, 11)), -1)
        self.assertEqual(laid(nested(holder, set_of(0), 9)), 1)
        self.assertEqual(laid(nested(holder, set_of(0), 10)), -1)
        self.assertTrue(opens(nested(holder, PERMIT, 10)))

    def test_a_condition_or_target_is_as_deep_as_its_policy(self):
        def holder(part):
            return set_of(0, part)
        for many in (0, 4, 9):
            rest = 10 - many
            fits, deeper = nested(negated, ALWAYS, rest), nested(negated, ALWAYS, rest + 1)
            self.assertEqual(laid(nested(holder, rule(1, fits), many)), 1)
            self.assertEqual(laid(nested(holder, rule(1, deeper), many)), -1)
            self.assertEqual(laid(nested(holder, set_of(0, target=fits), many)), 1)
            self.assertEqual(laid(nested(holder, set_of(0, target=deeper), many)), -1)
        self.assertEqual(laid(nested(holder, rule(1, between(1, 1, 1)), 10)), 1)
        self.assertEqual(laid(nested(holder, rule(1, negated(ALWAYS)), 10)), -1)
        self.assertEqual(laid(nested(holder, rule(1, all_of()), 10)), -1)

    def test_six_different_numbers_of_an_attribute(self):
        three = [between(1, 10, 19), between(1, 30, 39), between(1, 50, 59)]
        self.assertEqual(laid(rule(1, any_of(*three))), 1)
        for more in (between(1, 11, 19), between(1, 10, 18), between(1, 70, 19), between(1, 70, 79)):
            self.assertEqual(laid(rule(1, any_of(*three, more))), -1)
        # Numbers that are there already, as a first one or as one above a second one.
        again = [between(1, 10, 59), between(1, 20, 29), between(1, 40, 9), between(1, 60, 49)]
        self.assertEqual(laid(rule(1, any_of(*three, *again))), 1)
        self.assertEqual(laid(rule(1, any_of(*three, between(1, 19, 19)))), -1)
        self.assertEqual(laid(rule(1, any_of(*three, between(1, 10, 10)))), -1)

    def test_each_attribute_has_its_own_six(self):
        # Other numbers for each, so that counting them together would refuse.
        six = [between(k, 100 * k + low, 100 * k + low + 9) for k in (1, 2, 3, 4) for low in (10, 30, 50)]
        self.assertEqual(laid(rule(1, any_of(*six))), 1)
        for k in (1, 2, 3, 4):
            self.assertEqual(laid(rule(1, any_of(*six, between(k, 70, 100 * k + 19)))), -1)

    def test_the_six_are_of_the_whole_code(self):
        parts = [rule(1, between(2, 10, 19)), rule(1, negated(between(2, 30, 39)))]
        self.assertEqual(laid(set_of(0, *parts, target=between(2, 50, 59))), 1)
        self.assertEqual(laid(set_of(0, *parts, set_of(0, target=between(2, 70, 59)))), 1)
        self.assertEqual(laid(set_of(0, *parts, set_of(0, target=between(2, 70, 79)), target=between(2, 50, 59))), -1)

    def test_what_cannot_be_laid_is_named_by_an_error_within(self):
        for code in ([], [0], PERMIT + [0], [0] * 121):
            with self.assertRaises(BadCode):
                read_code(code)


def nested(holder, inner, many):
    code = inner
    for turn in range(many):
        code = holder(code)
    return code


class Quorums(unittest.TestCase):
    def test_a_quorum_refuses_until_it_is_taken_back(self):
        self.assertEqual(
            said(grant(HOUSE, 1, 1), quorum(1, 0), opening(1, 1), quorum(1, 1), opening(1, 1), quorum(1, 0),
                 opening(1, 1)),
            [1, 2, 3, 4, -6, 5, 6])

    def test_it_is_of_its_door_alone(self):
        self.assertEqual(
            said(grant(HOUSE, 1, 1), grant(HOUSE, 1, 2), quorum(1, 3), opening(1, 2), opening(1, 1)),
            [1, 2, 3, 4, -6])

    def test_wrong_numbers(self):
        self.assertEqual(
            said(grant(HOUSE, 1, 1), quorum(0, 1), quorum(5, 1), quorum(MOST, 1), quorum(1, 4), quorum(1, MOST),
                 opening(1, 1), quorum(4, 3), quorum(1, 3)),
            [1, -1, -1, -1, -1, -1, 2, 3, 4])


if __name__ == "__main__":
    unittest.main()
