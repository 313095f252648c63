"""Promise 5: hang; and opened and length."""

import unittest

from tests.lines import (
    HOUSE, MOST, allow, grant, hang, last_told, leave, length, narrow, opened, opening, over, policy, quorum, revoke,
    said, ticket, told,
)

PERMIT = [0, 1, 0]
DENY = [0, 2, 0]
FIVE = [0, 0, 0, 5]
PERMIT_FIVE = [0, 1, 1, 4, 5, 5]
FULL = [grant(HOUSE, 2, 1)] * 14


class Hanging(unittest.TestCase):
    def check(self, calls, wanted):
        """All of these are done; and what hangs on each of them, nothing where it isn't wanted."""
        self.assertEqual(said(*calls), list(range(1, len(calls) + 1)))
        for number in range(1, len(calls) + 1):
            with self.subTest(number=number):
                found = wanted.get(number, [])
                self.assertEqual(last_told(*calls, hang(number)), [len(found)] + found)

    def test_on_a_grant(self):
        self.check(
            [grant(HOUSE, 1, 1), grant(HOUSE, 2, 1), opening(1, 1), opening(2, 1), opening(1, 1)],
            {1: [3, 5], 2: [4], 3: [3], 4: [4], 5: [5]})

    def test_on_a_grant_through_a_chain(self):
        self.check(
            [grant(HOUSE, 1, 1, 1), grant(1, 2, 1, 1), grant(2, 3, 1), opening(3, 1), opening(2, 1), opening(1, 1)],
            {1: [4, 5, 6], 2: [4, 5], 3: [4], 4: [4], 5: [5], 6: [6]})

    def test_not_on_one_of_two_grants_that_both_let_it(self):
        self.check([grant(HOUSE, 1, 1), grant(HOUSE, 1, 1), opening(1, 1)], {3: [3]})

    def test_not_on_a_grant_that_came_later(self):
        self.check([grant(HOUSE, 1, 1), opening(1, 1), grant(HOUSE, 1, 1), opening(1, 1)], {1: [2], 2: [2], 4: [4]})

    def test_on_a_ticket(self):
        self.check(
            [grant(HOUSE, 1, 1), ticket(1, 2, 1), opening(2, 1, 2), opening(1, 1), opening(2, 1, 2)],
            {1: [3, 4, 5], 2: [3, 5], 3: [3], 4: [4], 5: [5]})

    def test_on_a_ticket_that_is_narrowed(self):
        self.check(
            [grant(HOUSE, 1, 1), ticket(1, 2, 1), narrow(2, 2, 3), narrow(3, 3, 4), opening(4, 1, 4),
             opening(2, 1, 2), opening(3, 1, 3)],
            {1: [5, 6, 7], 2: [5, 6, 7], 3: [5, 7], 4: [5], 5: [5], 6: [6], 7: [7]})

    def test_each_thing_keeps_its_own_number(self):
        # Without 1, ticket 4 stays ticket 4, and what's opened by it isn't opened by ticket 3 or 5.
        self.check(
            [leave(9), grant(HOUSE, 1, 1), ticket(1, 2, 1, [1, 1, 7]), ticket(1, 2, 1), ticket(1, 2, 1, [1, 1, 8]),
             opening(2, 1, 4), narrow(2, 4, 3, [2, 1, 1]), opening(3, 1, 7, [1, 0, 0, 0])],
            {2: [6, 8], 4: [6, 8], 6: [6], 7: [8], 8: [8]})

    def test_a_ticket_of_a_lost_maker_is_no_longer_made(self):
        # Without 1 there's no ticket, and 1's right that came later makes none.
        self.check(
            [grant(HOUSE, 1, 1), ticket(1, 2, 1), revoke(HOUSE, 1, 1), grant(HOUSE, 1, 1), opening(2, 1, 2)],
            {1: [5], 2: [5], 4: [5], 5: [5]})

    def test_on_a_policy(self):
        self.check(
            [grant(HOUSE, 1, 1), policy(1, DENY), policy(1, PERMIT_FIVE), opening(1, 1, 0, FIVE), policy(1, []),
             opening(1, 1)],
            {1: [4, 6], 3: [4], 4: [4], 5: [6], 6: [6]})

    def test_not_on_a_policy_that_only_forbids(self):
        self.check([grant(HOUSE, 1, 1), policy(1, PERMIT), opening(1, 1), policy(1, DENY)], {1: [3], 3: [3]})

    def test_on_a_quorum(self):
        self.check(
            [grant(HOUSE, 1, 1), quorum(1, 2), quorum(1, 0), opening(1, 1)], {1: [4], 3: [4], 4: [4]})

    def test_on_an_allowing(self):
        self.check(
            [grant(HOUSE, 1, 1), grant(HOUSE, 2, 1, 1), quorum(1, 1), allow(2, 1), opening(1, 1)],
            {1: [5], 2: [5], 4: [5], 5: [5]})

    def test_not_on_one_of_two_allowings_that_are_enough_alone(self):
        self.check(
            [grant(HOUSE, 1, 1), grant(HOUSE, 2, 1, 1), grant(HOUSE, 3, 1, 1), quorum(1, 1), allow(2, 1), allow(3, 1),
             allow(2, 1), opening(1, 1)],
            {1: [8], 8: [8]})

    def test_each_opening_hangs_on_its_own_allowing(self):
        # Without 4 only 5 isn't done: the allowing in 6 is there for 7.
        self.check(
            [grant(HOUSE, 1, 1), grant(HOUSE, 2, 1, 1), quorum(1, 1), allow(2, 1), opening(1, 1), allow(2, 1),
             opening(1, 1)],
            {1: [5, 7], 2: [5, 7], 4: [5], 5: [5], 6: [7], 7: [7]})

    def test_an_opening_that_is_not_done_leaves_its_allowers_to_the_next(self):
        # Without 3, neither the opening 6 nor the allowing 8 is done; so 2 has still allowed the opening 9.
        # Without 8, the opening 6 has been done, and nobody has allowed the opening 9.
        self.check(
            [grant(HOUSE, 1, 1, 1), grant(HOUSE, 2, 1, 1), grant(HOUSE, 3, 1, 1), allow(1, 1), allow(2, 1),
             opening(3, 1), quorum(1, 1), allow(3, 1), opening(1, 1)],
            {1: [9], 3: [6], 6: [6], 8: [9], 9: [9]})

    def test_on_an_opening_only_itself(self):
        # Without an opening there are as many allowers for the next one, or more.
        self.check(
            [grant(HOUSE, 1, 1), grant(HOUSE, 2, 1, 1), quorum(1, 1), allow(2, 1), opening(1, 1), quorum(1, 0),
             opening(1, 1), opening(2, 1)],
            {1: [5, 7], 2: [5, 8], 4: [5], 5: [5], 6: [7, 8], 7: [7], 8: [8]})

    def test_on_a_revoke_that_makes_room(self):
        # Only with the revoke is there room among the fourteen for the grant 16.
        calls = FULL + [revoke(HOUSE, 2, 1), grant(HOUSE, 1, 1), opening(1, 1)]
        self.check(calls, {15: [17], 16: [17], 17: [17]})

    def test_on_a_leaving_or_taking_over_that_makes_room(self):
        for going in (leave(2), over(HOUSE, 2, 1)):
            self.check(FULL + [going, grant(HOUSE, 1, 1), opening(1, 1)], {15: [17], 16: [17], 17: [17]})

    def test_on_a_revoke_that_changes_what_is_taken_over(self):
        # With the revoke 6, user 1 takes over 3's grant to 4, and it outlasts 3's leaving. Without it, 3 may still
        # give by the grant 3, so 3's grant stays 3's own, and goes with 3.
        self.check(
            [grant(HOUSE, 1, 1, 1), grant(HOUSE, 2, 1, 1), grant(2, 3, 1, 1), grant(1, 3, 1, 1), grant(3, 4, 1),
             revoke(2, 3, 1), over(1, 3, 1), leave(3), opening(4, 1)],
            {1: [9], 4: [9], 5: [9], 6: [9], 7: [9], 9: [9]})

    def test_on_a_taking_over_by_what_it_kept(self):
        # Without 4 the revoke 6 takes back what 2 handed on.
        self.check(
            [grant(HOUSE, 1, 1, 1), grant(1, 2, 1, 1), grant(2, 3, 1), over(1, 2, 1), grant(1, 2, 1),
             revoke(1, 2, 1), opening(3, 1)],
            {1: [7], 2: [7], 3: [7], 4: [7], 7: [7]})

    def test_on_a_narrowing_that_no_longer_fits(self):
        # The revoke 3 comes between: without 4 the ticket 5 isn't made, nor 6 narrowed from it.
        self.check(
            [grant(HOUSE, 1, 1), opening(1, 1), revoke(HOUSE, 1, 1), grant(HOUSE, 1, 1), ticket(1, 2, 1),
             narrow(2, 5, 3), opening(3, 1, 6)],
            {1: [2], 2: [2], 4: [7], 5: [7], 6: [7], 7: [7]})

    def test_more_comes_of_what_can_no_longer_be_done(self):
        # Without the revoke 15 there's no room for the grant 16; so neither 17, 18 nor 19 can be done, and by these
        # not the opening 22; the opening 21 has nothing to do with it.
        calls = FULL + [revoke(HOUSE, 2, 1), grant(HOUSE, 1, 1, 1), grant(1, 3, 1), ticket(3, 4, 1),
                        narrow(4, 18, 5), grant(HOUSE, 6, 2), opening(6, 2), opening(5, 1, 19)]
        self.check(calls, {15: [22], 16: [22], 17: [22], 18: [22], 19: [22], 20: [21], 21: [21], 22: [22]})

    def test_what_is_done_again_further_on(self):
        # Without the revoke 15, neither 16, 17 nor 18 can be done; but 19 makes room for the grant 20 then.
        calls = FULL + [revoke(HOUSE, 2, 1), grant(HOUSE, 1, 1), opening(1, 1), revoke(HOUSE, 1, 1),
                        leave(2), grant(HOUSE, 3, 1), opening(3, 1)]
        self.check(calls, {15: [17], 16: [17], 17: [17], 20: [21], 21: [21]})

    def test_a_revoke_that_can_no_longer_be_done(self):
        # Without the grant 14 the revoke 15 isn't done, but there's room for 16 all the same.
        calls = FULL[1:] + [grant(HOUSE, 3, 1), revoke(HOUSE, 3, 1), grant(HOUSE, 1, 1), opening(1, 1)]
        self.check(calls, {15: [17], 16: [17], 17: [17]})

    def test_not_on_a_chain_beside_which_another_grant_is_enough(self):
        # Without 1, neither 2 nor 4 can be done, and the right that 3 gives is enough.
        self.check(
            [grant(HOUSE, 1, 1, 1), grant(1, 2, 1), grant(HOUSE, 2, 1), revoke(1, 2, 1), opening(2, 1)],
            {3: [5], 5: [5]})

    def test_a_thing_on_which_nothing_hangs(self):
        self.check([leave(1), grant(HOUSE, 1, 1), quorum(2, 1), policy(3, DENY), opening(1, 1), leave(1)],
                   {2: [5], 5: [5]})
        self.assertEqual(told(leave(1), hang(1)), [[1], [0]])

    def test_what_was_refused_does_not_count(self):
        # Without the policy 2 the refused opening could be done: but it isn't in the log.
        calls = [grant(HOUSE, 2, 1), policy(1, DENY), opening(2, 1), grant(HOUSE, 1, 2), opening(1, 2)]
        self.assertEqual(
            told(*calls, hang(1), hang(2), hang(3), hang(4), hang(5))[2:],
            [[-6], [3], [4], [0], [0], [1, 4], [1, 4], [-2]])

    def test_edges_and_refusals(self):
        calls = [grant(HOUSE, 1, 1), opening(1, 1)]
        self.assertEqual(
            told(*calls, *[hang(n) for n in (0, 1, 2, 3, MOST)])[2:], [[-2], [1, 2], [1, 2], [-2], [-2]])
        self.assertEqual(told(hang(0), hang(1)), [[-2], [-2]])

    def test_with_sixty_things_done(self):
        calls = [grant(HOUSE, 1, 1)] + [opening(1, 1)] * 59
        self.assertEqual(
            told(*calls, hang(1), hang(2), hang(60), hang(61))[60:],
            [[59] + list(range(2, 61)), [1, 2], [1, 60], [-2]])

    def test_numbers_rise(self):
        calls = [grant(HOUSE, 1, 1, 1), grant(1, 2, 1), opening(2, 1), opening(1, 1), opening(2, 1)]
        self.assertEqual(last_told(*calls, hang(1)), [3, 3, 4, 5])


class Opened(unittest.TestCase):
    def test_the_numbers_of_all_openings(self):
        calls = [grant(HOUSE, 1, 1), opening(1, 1), opening(2, 1), ticket(1, 2, 1), opening(2, 1, 3), leave(1),
                 opening(1, 1), grant(HOUSE, 2, 4), opening(2, 4)]
        self.assertEqual(told(*calls, opened())[1:],
                         [[2], [-6], [3], [4], [5], [-6], [6], [7], [3, 2, 4, 7]])

    def test_none(self):
        self.assertEqual(told(opened(), grant(HOUSE, 1, 1), opening(2, 1), opened()), [[0], [1], [-6], [0]])

    def test_what_is_asked_is_not_opened(self):
        self.assertEqual(
            told(grant(HOUSE, 1, 1), opened(), opening(1, 1), opened(), opening(1, 1), opened())[1:],
            [[0], [2], [1, 2], [3], [2, 2, 3]])


class Length(unittest.TestCase):
    def test_how_many_things_were_done(self):
        self.assertEqual(
            told(length(), grant(HOUSE, 1, 1), length(), grant(2, 3, 1), length(), opening(1, 1), leave(1), length()),
            [[0], [1], [1], [-6], [1], [2], [3], [3]])

    def test_up_to_sixty(self):
        self.assertEqual(said(*[leave(1)] * 59, length(), leave(1), length(), leave(1), length())[59:],
                         [59, 60, 60, -5, 60])


if __name__ == "__main__":
    unittest.main()
