"""Promise 4: may and was."""

import unittest

from tests.lines import (
    HOUSE, MOST, REQUEST, allow, grant, last_told, leave, length, may, narrow, opening, over, policy, quorum, revoke,
    said, ticket, told, was,
)

PERMIT_FIVE = [0, 1, 1, 4, 5, 5]
FIVE = [0, 0, 0, 5]
PERMIT = [0, 1, 0]
DENY = [0, 2, 0]
WRONG_ASKINGS = (
    (0, 1, REQUEST), (13, 1, REQUEST), (MOST, 1, REQUEST), (1, 0, REQUEST), (1, 5, REQUEST), (1, MOST, REQUEST),
    (1, 1, []), (1, 1, [0] * 3), (1, 1, [0] * 5), (1, 1, [0] * 6), (1, 1, [100001, 0, 0, 0]),
    (1, 1, [0, 100001, 0, 0]), (1, 1, [0, 0, 100001, 0]), (1, 1, [0, 0, 0, MOST]),
)


class May(unittest.TestCase):
    def test_each_part_by_itself(self):
        # User 1 has the right, user 2 hasn't; request FIVE is permitted; user 3 may allow.
        start = [grant(HOUSE, 1, 1), policy(1, PERMIT_FIVE), grant(HOUSE, 3, 1, 1), quorum(1, 1)]
        allowed = start + [allow(3, 1)]
        self.assertEqual(last_told(*allowed, may(1, 1, 0, FIVE)), [1, 1, 1, 1])
        self.assertEqual(last_told(*allowed, may(2, 1, 0, FIVE)), [0, 0, 1, 1])
        self.assertEqual(last_told(*allowed, may(1, 1, 0)), [0, 1, 0, 1])
        self.assertEqual(last_told(*start, may(1, 1, 0, FIVE)), [0, 1, 1, 0])
        self.assertEqual(last_told(*start, may(2, 1, 0)), [0, 0, 0, 0])

    def test_in_a_new_house(self):
        self.assertEqual(told(may(1, 1), may(12, 4, 7)), [[0, 0, 1, 0], [0, 0, 1, 0]])

    def test_by_the_right_with_or_without_leave(self):
        self.assertEqual(
            told(grant(HOUSE, 1, 1), grant(HOUSE, 12, 4, 1), may(1, 1), may(12, 4), may(1, 4), may(12, 1))[2:],
            [[1, 1, 1, 0], [1, 1, 1, 0], [0, 0, 1, 0], [0, 0, 1, 0]])

    def test_by_a_ticket(self):
        start = [grant(HOUSE, 1, 1), ticket(1, 2, 1, [0, 1, 5]), grant(HOUSE, 1, 2), grant(HOUSE, 2, 2)]
        self.assertEqual(
            told(*start, may(2, 1, 2, [5, 0, 0, 0]), may(2, 1, 2, [6, 0, 0, 0]), may(1, 1, 2), may(2, 2, 2),
                 may(2, 1, 0))[4:],
            [[1, 1, 1, 0], [0, 0, 1, 0], [0, 0, 1, 0], [0, 0, 1, 0], [0, 0, 1, 0]])
        self.assertEqual(last_told(*start, revoke(HOUSE, 1, 1), may(2, 1, 2)), [0, 0, 1, 0])
        self.assertEqual(last_told(*start, grant(HOUSE, 2, 1), revoke(HOUSE, 1, 1), may(2, 1, 2)), [0, 0, 1, 0])

    def test_by_a_narrowed_ticket(self):
        start = [grant(HOUSE, 1, 1), ticket(1, 2, 1, [0, 1, 5]), narrow(2, 2, 3, [2, 1, 4])]
        self.assertEqual(
            told(*start, *[may(3, 1, 3, [value, 0, 0, 0]) for value in (3, 4, 5, 6)], may(2, 1, 3, [4, 0, 0, 0]))[3:],
            [[0, 0, 1, 0], [1, 1, 1, 0], [1, 1, 1, 0], [0, 0, 1, 0], [0, 0, 1, 0]])

    def test_no_such_ticket_is_no_refusal(self):
        start = [grant(HOUSE, 1, 1), grant(HOUSE, 2, 1, 1), allow(2, 1)]
        for number in (1, 3, 4, MOST):
            self.assertEqual(last_told(*start, may(1, 1, number)), [0, 0, 1, 1])
        self.assertEqual(last_told(*start, may(1, 1, 0)), [1, 1, 1, 1])

    def test_a_ticket_that_fails_is_not_made_up_for_by_the_right(self):
        self.assertEqual(
            last_told(grant(HOUSE, 1, 1), ticket(1, 1, 1, [1, 2, 3]), may(1, 1, 2, REQUEST)), [0, 0, 1, 0])

    def test_what_the_policy_decides(self):
        # Nothing, permit, deny, unclear: permit alone permits; and a door without policy.
        for code, permitted in (([0, 1, 3, 0], 0), (PERMIT, 1), (DENY, 0), ([1, 3, 0, 2] + PERMIT * 2, 0), ([], 1)):
            with self.subTest(code=code):
                self.assertEqual(
                    last_told(grant(HOUSE, 1, 1), policy(1, code), may(1, 1)), [permitted, 1, permitted, 0])

    def test_how_many_allowers(self):
        start = [grant(HOUSE, user, 1, 1) for user in (1, 2, 3, 4)] + [grant(HOUSE, 5, 1), quorum(1, 3)]
        allowing = [allow(user, 1) for user in (1, 2, 3)]
        for many in range(4):
            self.assertEqual(
                last_told(*start, *allowing[:many], may(5, 1)), [1 if many == 3 else 0, 1, 1, many])
        # Who opens isn't counted, who allows again isn't counted again, who has no leave now isn't counted.
        self.assertEqual(last_told(*start, *allowing, may(1, 1)), [0, 1, 1, 2])
        self.assertEqual(last_told(*start, *allowing, allow(2, 1), may(5, 1)), [1, 1, 1, 3])
        self.assertEqual(last_told(*start, *allowing, allow(4, 1), may(5, 1)), [1, 1, 1, 4])
        self.assertEqual(last_told(*start, *allowing, revoke(HOUSE, 2, 1), may(5, 1)), [0, 1, 1, 2])
        self.assertEqual(
            last_told(*start, *allowing, revoke(HOUSE, 2, 1), grant(HOUSE, 2, 1), may(5, 1)), [0, 1, 1, 2])
        self.assertEqual(
            last_told(*start, *allowing, revoke(HOUSE, 2, 1), grant(HOUSE, 2, 1, 1), may(5, 1)), [1, 1, 1, 3])
        self.assertEqual(last_told(*start, *allowing, opening(5, 1), may(5, 1)), [0, 1, 1, 0])

    def test_no_allowers_are_asked_for_at_first(self):
        start = [grant(HOUSE, 1, 1), grant(HOUSE, 2, 1, 1)]
        self.assertEqual(last_told(*start, may(1, 1)), [1, 1, 1, 0])
        self.assertEqual(last_told(*start, allow(2, 1), may(1, 1)), [1, 1, 1, 1])
        self.assertEqual(last_told(*start, quorum(1, 1), quorum(1, 0), may(1, 1)), [1, 1, 1, 0])

    def test_wrong_numbers(self):
        for user, door, values in WRONG_ASKINGS:
            with self.subTest(user=user, door=door, values=values):
                self.assertEqual(told(may(user, door, 0, values), may(user, door, 9, values)), [[-1], [-1]])

    def test_just_inside_the_edges(self):
        start = [grant(HOUSE, 12, 4), ticket(12, 1, 4)]
        self.assertEqual(last_told(*start, may(12, 4, 0, [100000] * 4)), [1, 1, 1, 0])
        self.assertEqual(last_told(*start, may(1, 4, 2, [100000, 0, 100000, 0])), [1, 1, 1, 0])
        self.assertEqual(last_told(*start, may(1, 1)), [0, 0, 1, 0])


class Was(unittest.TestCase):
    def test_at_the_beginning_now_and_behind_it(self):
        start = [grant(HOUSE, 1, 1), leave(9)]
        self.assertEqual(
            told(*start, *[was(m, 1, 1) for m in (0, 1, 2, 3, MOST)])[2:],
            [[0, 0, 1, 0], [1, 1, 1, 0], [1, 1, 1, 0], [-2], [-2]])
        self.assertEqual(told(was(0, 1, 1), was(1, 1, 1)), [[0, 0, 1, 0], [-2]])

    def test_what_is_refused_makes_no_moment(self):
        self.assertEqual(
            told(grant(1, 2, 1), grant(HOUSE, 1, 1), opening(2, 1), was(1, 1, 1), was(2, 1, 1))[3:],
            [[1, 1, 1, 0], [-2]])

    def test_wrong_numbers(self):
        for user, door, values in WRONG_ASKINGS:
            with self.subTest(user=user, door=door, values=values):
                self.assertEqual(
                    told(leave(1), *[was(m, user, door, 9, values) for m in (0, 1)])[1:], [[-1], [-1]])

    def test_no_such_moment_is_told_ahead_of_wrong(self):
        for user, door, values in WRONG_ASKINGS:
            with self.subTest(user=user, door=door, values=values):
                self.assertEqual(
                    told(was(1, user, door, 0, values), leave(1), was(1, user, door, 0, values),
                         was(2, user, door, 0, values), was(MOST, user, door, 0, values)),
                    [[-2], [1], [-1], [-2], [-2]])

    def test_just_inside_the_edges(self):
        self.assertEqual(
            told(grant(HOUSE, 12, 4), was(1, 12, 4, 0, [100000] * 4), was(1, 1, 1, MOST))[1:],
            [[1, 1, 1, 0], [0, 0, 1, 0]])

    def test_no_such_ticket_is_no_refusal(self):
        start = [grant(HOUSE, 1, 1), ticket(1, 2, 1)]
        self.assertEqual(
            told(*start, was(2, 2, 1, 2), was(1, 2, 1, 2), was(0, 2, 1, 2), was(2, 2, 1, 1), was(2, 2, 1, MOST))[2:],
            [[1, 1, 1, 0]] + [[0, 0, 1, 0]] * 4)

    def test_a_narrowed_ticket_is_there_from_its_own_moment_on(self):
        start = [grant(HOUSE, 1, 1), ticket(1, 2, 1), narrow(2, 2, 3)]
        self.assertEqual(
            told(*start, *[was(m, 3, 1, 3) for m in range(4)])[3:], [[0, 0, 1, 0]] * 3 + [[1, 1, 1, 0]])

    def test_a_grant_that_was_revoked(self):
        self.assertEqual(
            told(grant(HOUSE, 1, 1, 1), grant(1, 2, 1), revoke(HOUSE, 1, 1), *[was(m, 2, 1) for m in range(4)])[3:],
            [[0, 0, 1, 0], [0, 0, 1, 0], [1, 1, 1, 0], [0, 0, 1, 0]])

    def test_a_grant_that_was_taken_over_or_left(self):
        start = [grant(HOUSE, 1, 1, 1), grant(1, 2, 1, 1), grant(2, 3, 1), over(1, 2, 1), leave(3)]
        self.assertEqual([given[0] for given in told(*start, *[was(m, 2, 1) for m in range(6)])[5:]],
                         [0, 0, 1, 1, 0, 0])
        self.assertEqual([given[0] for given in told(*start, *[was(m, 3, 1) for m in range(6)])[5:]],
                         [0, 0, 0, 1, 1, 0])

    def test_a_policy_that_was_laid_and_taken_away(self):
        start = [grant(HOUSE, 1, 1), policy(1, DENY), policy(1, PERMIT_FIVE), policy(1, [])]
        self.assertEqual(
            told(*start, *[was(m, 1, 1, 0, FIVE) for m in range(5)])[4:],
            [[0, 0, 1, 0], [1, 1, 1, 0], [0, 1, 0, 0], [1, 1, 1, 0], [1, 1, 1, 0]])
        self.assertEqual(
            told(*start, *[was(m, 1, 1) for m in range(5)])[4:],
            [[0, 0, 1, 0], [1, 1, 1, 0], [0, 1, 0, 0], [0, 1, 0, 0], [1, 1, 1, 0]])

    def test_an_allowing_a_quorum_and_an_opening(self):
        start = [grant(HOUSE, 1, 1), grant(HOUSE, 2, 1, 1), quorum(1, 1), allow(2, 1), opening(1, 1), quorum(1, 0)]
        self.assertEqual(
            told(*start, *[was(m, 1, 1) for m in range(7)])[6:],
            [[0, 0, 1, 0], [1, 1, 1, 0], [1, 1, 1, 0], [0, 1, 1, 0], [1, 1, 1, 1], [0, 1, 1, 0], [1, 1, 1, 0]])

    def test_a_ticket_whose_maker_loses_the_right_and_gets_it_again(self):
        start = [grant(HOUSE, 1, 1), ticket(1, 2, 1), leave(1), grant(HOUSE, 1, 1)]
        self.assertEqual([given[0] for given in told(*start, *[was(m, 2, 1, 2) for m in range(5)])[4:]],
                         [0, 0, 1, 0, 1])

    def test_it_stays_the_same_whatever_is_done_later(self):
        start = [grant(HOUSE, 1, 1, 1), grant(HOUSE, 2, 1, 1), quorum(1, 1), allow(2, 1)]
        later = [opening(1, 1), policy(1, DENY), leave(1), leave(2), quorum(1, 3)]
        for many in range(len(later) + 1):
            self.assertEqual(last_told(*start, *later[:many], was(4, 1, 1)), [1, 1, 1, 1])

    def test_a_moment_is_not_changed_by_asking_of_it(self):
        start = [grant(HOUSE, 1, 1), quorum(1, 1), grant(HOUSE, 2, 1, 1), allow(2, 1)]
        given = told(*start, was(4, 1, 1), was(1, 1, 1), was(4, 1, 1), may(1, 1), opening(1, 1), was(4, 1, 1), length())
        self.assertEqual(
            given[4:], [[1, 1, 1, 1], [1, 1, 1, 0], [1, 1, 1, 1], [1, 1, 1, 1], [5], [1, 1, 1, 1], [5]])

    def test_at_all_sixty_moments(self):
        calls = [grant(HOUSE, 1, 1) if k % 2 == 0 else revoke(HOUSE, 1, 1) for k in range(60)]
        self.assertEqual(said(*calls), list(range(1, 61)))
        for first in range(0, 61, 20):
            moments = range(first, min(first + 20, 61))
            self.assertEqual(
                told(*calls, *[was(m, 1, 1) for m in moments])[60:], [[m % 2, m % 2, 1, 0] for m in moments])
        self.assertEqual(last_told(*calls, was(61, 1, 1)), [-2])


if __name__ == "__main__":
    unittest.main()
