"""Promises 2 and 4: allow and open."""

import unittest

from tests.lines import (
    HOUSE, MOST, REQUEST, allow, grant, last, leave, narrow, opening, policy, quorum, revoke, said, ticket,
)

PERMIT_FIVE = [0, 1, 1, 4, 5, 5]
DENY = [0, 2, 0]


class Allowing(unittest.TestCase):
    def test_only_who_may_hand_the_right_on_allows(self):
        self.assertEqual(
            said(grant(HOUSE, 1, 1, 1), grant(HOUSE, 2, 1), allow(1, 1), allow(2, 1), allow(3, 1), allow(1, 2)),
            [1, 2, 3, -6, -6, -6])

    def test_wrong_numbers(self):
        for wrong in (allow(0, 1), allow(13, 1), allow(MOST, 1), allow(1, 0), allow(1, 5), allow(1, MOST)):
            self.assertEqual(said(grant(HOUSE, 1, 1, 1), wrong, allow(1, 1)), [1, -1, 2])
        self.assertEqual(said(grant(HOUSE, 12, 4, 1), allow(12, 4)), [1, 2])

    def test_a_refusal_allows_nothing(self):
        self.assertEqual(
            said(grant(HOUSE, 1, 1), quorum(1, 1), grant(HOUSE, 2, 1), allow(2, 1), grant(HOUSE, 2, 1, 1),
                 opening(1, 1), allow(2, 1), opening(1, 1)),
            [1, 2, 3, -6, 4, -6, 5, 6])


class Quorum(unittest.TestCase):
    def start(self, asked):
        owners = [grant(HOUSE, user, 1, 1) for user in (1, 2, 3, 4)]
        return owners + [grant(HOUSE, 5, 1), quorum(1, asked)]

    def test_as_many_others_must_have_allowed(self):
        for asked in (1, 2, 3):
            start = self.start(asked)
            allowed = [allow(user, 1) for user in range(1, asked + 1)]
            self.assertEqual(last(*start, *allowed[1:], opening(5, 1)), -6)
            self.assertEqual(last(*start, *allowed, opening(5, 1)), 7 + asked)

    def test_more_than_asked_will_do(self):
        self.assertEqual(last(*self.start(1), allow(1, 1), allow(2, 1), opening(5, 1)), 9)
        self.assertEqual(last(*self.start(0), allow(1, 1), opening(5, 1)), 8)

    def test_who_opens_does_not_count(self):
        self.assertEqual(
            said(*self.start(1), allow(1, 1), opening(1, 1), opening(2, 1))[6:], [7, -6, 8])

    def test_once_more_says_nothing_but_is_done(self):
        self.assertEqual(
            said(*self.start(2), allow(1, 1), allow(1, 1), opening(5, 1), allow(2, 1), opening(5, 1))[6:],
            [7, 8, -6, 9, 10])

    def test_who_has_leave_no_longer_does_not_count(self):
        self.assertEqual(
            said(*self.start(1), allow(1, 1), revoke(HOUSE, 1, 1), opening(5, 1), grant(HOUSE, 1, 1),
                 opening(5, 1), grant(HOUSE, 1, 1, 1), opening(5, 1))[6:],
            [7, 8, -6, 9, -6, 10, 11])

    def test_who_left_counts_again_with_leave_again(self):
        self.assertEqual(
            said(*self.start(1), allow(1, 1), leave(1), opening(5, 1), grant(HOUSE, 1, 1, 1), opening(5, 1))[6:],
            [7, 8, -6, 9, 10])

    def test_once_opened_nobody_has_allowed_the_next_one(self):
        self.assertEqual(
            said(*self.start(1), allow(1, 1), allow(2, 1), opening(5, 1), opening(5, 1), opening(1, 1),
                 opening(2, 1), allow(1, 1), opening(5, 1))[6:],
            [7, 8, 9, -6, -6, -6, 10, 11])

    def test_an_opening_forgets_also_who_does_not_count_now(self):
        # 2 has no leave when it's opened, and hasn't allowed the next opening with leave again either.
        self.assertEqual(
            said(*self.start(1), allow(1, 1), allow(2, 1), revoke(HOUSE, 2, 1), opening(5, 1),
                 grant(HOUSE, 2, 1, 1), opening(5, 1))[6:],
            [7, 8, 9, 10, 11, -6])

    def test_an_opening_without_quorum_forgets_too(self):
        self.assertEqual(
            said(*self.start(0), allow(1, 1), opening(5, 1), quorum(1, 1), opening(5, 1))[6:], [7, 8, 9, -6])

    def test_a_refused_opening_forgets_nothing(self):
        self.assertEqual(
            said(*self.start(1), allow(1, 1), opening(6, 1), opening(1, 1), opening(5, 1, 99), opening(5, 1, 0, [1]),
                 opening(5, 1))[6:],
            [7, -6, -6, -2, -1, 8])

    def test_another_door_is_another_matter(self):
        doors = [grant(HOUSE, 1, 2, 1), grant(HOUSE, 5, 2), quorum(2, 1)]
        self.assertEqual(
            said(*self.start(1), *doors, allow(1, 1), opening(5, 2), allow(1, 2), opening(5, 2), opening(5, 1))[9:],
            [10, -6, 11, 12, 13])

    def test_an_opening_by_ticket_asks_for_allowers_too(self):
        self.assertEqual(
            said(*self.start(1), ticket(1, 6, 1), opening(6, 1, 7), allow(1, 1), opening(6, 1, 7))[6:],
            [7, -6, 8, 9])


class Opening(unittest.TestCase):
    def test_by_the_right_with_or_without_leave(self):
        self.assertEqual(
            said(grant(HOUSE, 1, 1), grant(HOUSE, 2, 1, 1), opening(1, 1), opening(2, 1), opening(3, 1)),
            [1, 2, 3, 4, -6])

    def test_a_ticket_that_fails_is_not_made_up_for_by_the_right(self):
        self.assertEqual(
            said(grant(HOUSE, 1, 1), ticket(1, 1, 1, [0, 1, 5]), opening(1, 1, 2, [6, 0, 0, 0]),
                 opening(1, 1, 0, [6, 0, 0, 0])),
            [1, 2, -6, 3])

    def test_refused_for_want_of_right_or_ticket(self):
        start = [grant(HOUSE, 1, 1), ticket(1, 2, 1, [0, 1, 5]), policy(1, PERMIT_FIVE)]
        self.assertEqual(last(*start, opening(3, 1, 0, [0, 0, 0, 5])), -6)
        self.assertEqual(last(*start, opening(2, 1, 2, [6, 0, 0, 5])), -6)
        self.assertEqual(last(*start, opening(3, 1, 2, [5, 0, 0, 5])), -6)
        self.assertEqual(last(*start, opening(2, 1, 2, [5, 0, 0, 5])), 4)

    def test_refused_by_the_policy(self):
        start = [grant(HOUSE, 1, 1), ticket(1, 2, 1), policy(1, PERMIT_FIVE)]
        self.assertEqual(last(*start, opening(1, 1, 0, [0, 0, 0, 4])), -6)
        self.assertEqual(last(*start, opening(2, 1, 2, [0, 0, 0, 4])), -6)
        self.assertEqual(last(*start, opening(1, 1, 0, [0, 0, 0, 5])), 4)

    def test_refused_for_want_of_allowers(self):
        start = [grant(HOUSE, 1, 1), grant(HOUSE, 2, 1, 1), quorum(1, 1)]
        self.assertEqual(last(*start, opening(1, 1)), -6)
        self.assertEqual(last(*start, allow(2, 1), opening(1, 1)), 5)

    def test_wrong_numbers(self):
        start = [grant(HOUSE, 1, 1)]
        for wrong in (opening(0, 1), opening(13, 1), opening(MOST, 1), opening(1, 0), opening(1, 5),
                      opening(1, MOST)):
            with self.subTest(wrong=wrong):
                self.assertEqual(said(*start, wrong, opening(1, 1)), [1, -1, 2])
        self.assertEqual(said(grant(HOUSE, 12, 4), opening(12, 4)), [1, 2])

    def test_four_values_up_to_a_hundred_thousand(self):
        start = [grant(HOUSE, 1, 1)]
        for values in ([], [0], [0] * 3, [0] * 5, [0] * 6):
            self.assertEqual(said(*start, opening(1, 1, 0, values), opening(1, 1)), [1, -1, 2])
        for place in range(4):
            for value, answer in ((100000, 2), (100001, -1), (MOST, -1)):
                values = list(REQUEST)
                values[place] = value
                self.assertEqual(last(*start, opening(1, 1, 0, values)), answer)

    def test_no_such_ticket(self):
        self.assertEqual(
            said(grant(HOUSE, 1, 1), opening(1, 1, 1), opening(1, 1, 2), opening(1, 1, MOST), opening(1, 1)),
            [1, -2, -2, -2, 2])
        self.assertEqual(
            said(grant(HOUSE, 1, 1), ticket(1, 2, 1), narrow(2, 2, 3), opening(3, 1, 3), opening(3, 1, 4)),
            [1, 2, 3, 4, -2])

    def test_the_order_of_refusals(self):
        start = [grant(HOUSE, 1, 1), policy(1, DENY)]
        self.assertEqual(last(*start, opening(13, 1, 9)), -1)
        self.assertEqual(last(*start, opening(2, 1, 9, [0])), -1)
        self.assertEqual(last(*start, opening(2, 5, 9)), -1)
        self.assertEqual(last(*start, opening(2, 1, 9)), -2)
        self.assertEqual(last(*start, opening(1, 1, 9)), -2)
        self.assertEqual(last(*start, opening(2, 1)), -6)


if __name__ == "__main__":
    unittest.main()
