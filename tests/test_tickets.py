"""Promise 3: ticket and narrow."""

import unittest

from tests.lines import HOUSE, MOST, grant, last, leave, narrow, opening, revoke, said, ticket

START = grant(HOUSE, 1, 1)


def tried(caveats, values):
    """Whether a ticket with these caveats opens its door for these values."""
    given = said(START, ticket(1, 2, 1, caveats), opening(2, 1, 2, values))
    return {3: True, -6: False}[given[2]]


WRONG_CAVEATS = (
    [0], [0, 1], [0, 1, 5, 0], [0, 1, 5, 0, 1], [3, 1, 5], [MOST, 1, 5], [0, 0, 5], [0, 4, 5], [0, MOST, 5],
    [0, 1, 100001], [1, 1, 100001], [2, 3, MOST], [0, 1, 5, 0, 4, 5], [0, 1, 5] * 9, [0, 1, 5] * 10,
    [0, 1, 5] * 8 + [0],
)
RIGHT_CAVEATS = ([], [0, 1, 0], [1, 2, 100000], [2, 3, 100000], [0, 1, 5] * 8)


class Making(unittest.TestCase):
    def test_who_has_it_opens_by_it_without_the_right(self):
        self.assertEqual(said(START, ticket(1, 2, 1), opening(2, 1), opening(2, 1, 2)), [1, 2, -6, 3])

    def test_the_maker_needs_no_leave_and_may_have_it_themselves(self):
        self.assertEqual(said(START, ticket(1, 1, 1), opening(1, 1, 2)), [1, 2, 3])
        self.assertEqual(said(grant(HOUSE, 1, 1, 1), ticket(1, 2, 1), opening(2, 1, 2)), [1, 2, 3])

    def test_who_has_not_the_right_makes_none(self):
        self.assertEqual(
            said(ticket(1, 2, 1), START, ticket(1, 2, 2), ticket(2, 1, 1), revoke(HOUSE, 1, 1), ticket(1, 2, 1)),
            [-6, 1, -6, -6, 2, -6])

    def test_wrong_numbers(self):
        for wrong in (ticket(0, 2, 1), ticket(13, 2, 1), ticket(MOST, 2, 1), ticket(1, 0, 1), ticket(1, 13, 1),
                      ticket(1, MOST, 1), ticket(1, 2, 0), ticket(1, 2, 5), ticket(1, 2, MOST)):
            with self.subTest(wrong=wrong):
                self.assertEqual(said(START, wrong, opening(2, 1, 2), ticket(1, 2, 1)), [1, -1, -2, 2])
        self.assertEqual(said(grant(HOUSE, 12, 4), ticket(12, 12, 4), opening(12, 4, 2)), [1, 2, 3])

    def test_caveats_told_wrongly(self):
        for caveats in WRONG_CAVEATS:
            with self.subTest(caveats=caveats):
                self.assertEqual(said(START, ticket(1, 2, 1, caveats), opening(2, 1, 2)), [1, -1, -2])

    def test_caveats_told_rightly(self):
        for caveats in RIGHT_CAVEATS:
            with self.subTest(caveats=caveats):
                self.assertEqual(last(START, ticket(1, 2, 1, caveats)), 2)

    def test_wrong_is_told_ahead_of_may_not(self):
        self.assertEqual(
            said(ticket(1, 2, 1, [0, 4, 5]), ticket(1, 13, 1), ticket(1, 2, 1, [0, 1, 5])), [-1, -1, -6])


class Caveats(unittest.TestCase):
    def check(self, kind, wanted):
        for attribute in (1, 2, 3):
            for value, holds in wanted:
                values = [0, 0, 0, 0] if kind != 0 else [100000] * 4
                values[attribute - 1] = value
                with self.subTest(kind=kind, values=values):
                    self.assertEqual(tried([kind, attribute, 50], values), holds)

    def test_most(self):
        self.check(0, ((0, True), (49, True), (50, True), (51, False), (100000, False)))

    def test_just(self):
        self.check(1, ((0, False), (49, False), (50, True), (51, False)))

    def test_least(self):
        self.check(2, ((0, False), (49, False), (50, True), (51, True), (100000, True)))

    def test_all_must_hold(self):
        caveats = [2, 1, 10, 0, 1, 20, 1, 3, 7]
        self.assertTrue(tried(caveats, [10, 0, 7, 0]))
        self.assertTrue(tried(caveats, [20, 0, 7, 0]))
        self.assertFalse(tried(caveats, [9, 0, 7, 0]))
        self.assertFalse(tried(caveats, [21, 0, 7, 0]))
        self.assertFalse(tried(caveats, [10, 0, 8, 0]))

    def test_the_last_of_eight_counts(self):
        self.assertTrue(tried([0, 1, 5] * 7 + [0, 2, 5], [5, 5, 0, 0]))
        self.assertFalse(tried([0, 1, 5] * 7 + [0, 2, 5], [5, 6, 0, 0]))


class Goodness(unittest.TestCase):
    def test_it_is_good_as_long_as_its_maker_has_the_right(self):
        self.assertEqual(
            said(START, ticket(1, 2, 1), revoke(HOUSE, 1, 1), opening(2, 1, 2), grant(HOUSE, 2, 1),
                 opening(2, 1, 2), grant(HOUSE, 1, 1, 1), opening(2, 1, 2)),
            [1, 2, 3, -6, 4, -6, 5, 6])

    def test_it_is_good_for_its_door_and_for_who_has_it(self):
        self.assertEqual(
            said(START, grant(HOUSE, 1, 2), grant(HOUSE, 2, 2), ticket(1, 2, 1), opening(2, 2, 4), opening(1, 1, 4),
                 opening(3, 1, 4), opening(2, 1, 4)),
            [1, 2, 3, 4, -6, -6, -6, 5])

    def test_it_opens_again_and_again(self):
        self.assertEqual(said(START, ticket(1, 2, 1), opening(2, 1, 2), opening(2, 1, 2)), [1, 2, 3, 4])


class Narrowing(unittest.TestCase):
    def test_who_gets_it_opens_by_it_and_the_old_one_stays(self):
        self.assertEqual(
            said(START, ticket(1, 2, 1), narrow(2, 2, 3), opening(3, 1, 3), opening(2, 1, 3), opening(3, 1, 2),
                 opening(2, 1, 2), narrow(2, 2, 2), opening(2, 1, 6)),
            [1, 2, 3, 4, -6, -6, 5, 6, 7])

    def test_the_caveats_of_both_must_hold(self):
        start = [START, ticket(1, 2, 1, [0, 1, 10]), narrow(2, 2, 3, [2, 1, 5, 1, 2, 7])]
        for values, answer in (([5, 7, 0, 0], 4), ([10, 7, 0, 0], 4), ([11, 7, 0, 0], -6), ([4, 7, 0, 0], -6),
                               ([5, 8, 0, 0], -6)):
            self.assertEqual(last(*start, opening(3, 1, 3, values)), answer)
        self.assertEqual(last(*start, opening(2, 1, 2, [4, 0, 0, 0])), 4)

    def test_its_maker_and_door_stay(self):
        start = [grant(HOUSE, 1, 3), ticket(1, 2, 3), narrow(2, 2, 4), narrow(4, 3, 5)]
        self.assertEqual(last(*start, opening(5, 3, 4)), 5)
        self.assertEqual(last(*start, opening(5, 1, 4)), -6)
        self.assertEqual(last(*start, grant(HOUSE, 2, 3), grant(HOUSE, 4, 3), leave(1), opening(5, 3, 4)), -6)
        self.assertEqual(last(*start, leave(2), leave(4), opening(5, 3, 4)), 7)

    def test_a_ticket_that_is_not_good_is_narrowed_too(self):
        self.assertEqual(
            said(START, ticket(1, 2, 1), leave(1), narrow(2, 2, 3), opening(3, 1, 4), START, opening(3, 1, 4)),
            [1, 2, 3, 4, -6, 5, 6])

    def test_wrong_numbers(self):
        start = [START, ticket(1, 2, 1)]
        for wrong in (narrow(0, 2, 3), narrow(13, 2, 3), narrow(MOST, 2, 3), narrow(2, 2, 0), narrow(2, 2, 13),
                      narrow(2, 2, MOST)):
            with self.subTest(wrong=wrong):
                self.assertEqual(said(*start, wrong, opening(3, 1, 3), narrow(2, 2, 3))[2:], [-1, -2, 3])
        self.assertEqual(said(START, ticket(1, 12, 1), narrow(12, 2, 12), opening(12, 1, 3)), [1, 2, 3, 4])

    def test_caveats_told_wrongly_or_rightly(self):
        for caveats in WRONG_CAVEATS:
            with self.subTest(caveats=caveats):
                self.assertEqual(
                    said(START, ticket(1, 2, 1), narrow(2, 2, 3, caveats), opening(3, 1, 3)), [1, 2, -1, -2])
        for caveats in RIGHT_CAVEATS:
            with self.subTest(caveats=caveats):
                self.assertEqual(last(START, ticket(1, 2, 1), narrow(2, 2, 3, caveats)), 3)

    def test_no_such_ticket(self):
        self.assertEqual(
            said(START, ticket(1, 2, 1), narrow(2, 0, 3), narrow(1, 1, 3), narrow(2, 3, 3), narrow(2, MOST, 3),
                 narrow(2, 2, 3)),
            [1, 2, -2, -2, -2, -2, 3])

    def test_only_who_has_it_narrows_it(self):
        self.assertEqual(
            said(START, ticket(1, 2, 1), narrow(1, 2, 1), narrow(3, 2, 3), narrow(2, 2, 3), narrow(2, 3, 2),
                 narrow(3, 3, 1)),
            [1, 2, -6, -6, 3, -6, 4])

    def test_eight_caveats_in_all(self):
        five = ticket(1, 2, 1, [0, 1, 5] * 5)
        self.assertEqual(
            said(START, five, narrow(2, 2, 3, [0, 2, 5] * 4), opening(3, 1, 3), narrow(2, 2, 3, [0, 2, 5] * 3),
                 narrow(3, 3, 4), narrow(3, 3, 4, [0, 1, 1]), opening(4, 1, 4, [5, 5, 0, 0])),
            [1, 2, -1, -2, 3, 4, -1, 5])

    def test_the_order_of_refusals(self):
        start = [START, ticket(1, 2, 1, [0, 1, 5] * 8)]
        self.assertEqual(last(*start, narrow(3, 9, 13)), -1)
        self.assertEqual(last(*start, narrow(3, 9, 3, [3, 1, 1])), -1)
        self.assertEqual(last(*start, narrow(3, 9, 3, [0, 1, 1])), -2)
        # Too many caveats in all is told only to who has the ticket.
        self.assertEqual(last(*start, narrow(3, 2, 3, [0, 1, 1])), -6)
        self.assertEqual(last(*start, narrow(2, 2, 3, [0, 1, 1])), -1)


if __name__ == "__main__":
    unittest.main()
