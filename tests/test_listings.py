"""Promise 5: grants, tickets, chain and allowers."""

import unittest

from tests.lines import (
    HOUSE, MOST, allow, allowers, chain, grant, grants, last_told, leave, narrow, opening, over, quorum, revoke, said,
    ticket, tickets, told,
)


def rows(*grants_told):
    """What grants answers when there are these."""
    return [len(grants_told)] + [number for row in grants_told for number in row]


class Grants(unittest.TestCase):
    def test_all_numbers_of_each(self):
        start = [grant(HOUSE, 3, 1, 1), leave(9), grant(3, 1, 1), grant(HOUSE, 2, 2), grant(HOUSE, 1, 1, 1)]
        self.assertEqual(
            told(*start, grants(1), grants(2), grants(3))[5:],
            [rows((1, 0, 3, 1), (3, 3, 1, 0), (5, 0, 1, 1)), rows((4, 0, 2, 0)), [0]])
        self.assertEqual(last_told(*start, grants(1)), [3, 1, 0, 3, 1, 3, 3, 1, 0, 5, 0, 1, 1])

    def test_none(self):
        self.assertEqual(told(*[grants(r) for r in (1, 2, 3, 4)]), [[0]] * 4)

    def test_wrong_numbers(self):
        self.assertEqual(
            told(grant(HOUSE, 12, 4), *[grants(r) for r in (0, 5, MOST, 1, 4)])[1:],
            [[-1], [-1], [-1], [0], rows((1, 0, 12, 0))])

    def test_the_same_grant_twice_is_two(self):
        self.assertEqual(
            last_told(grant(HOUSE, 1, 1), grant(HOUSE, 1, 1), grants(1)), rows((1, 0, 1, 0), (2, 0, 1, 0)))

    def test_fourteen(self):
        calls = [grant(HOUSE, 1, 1)] * 15
        self.assertEqual(last_told(*calls, grants(1)), rows(*[(k, 0, 1, 0) for k in range(1, 15)]))

    def test_what_goes_when_it_is_taken_back(self):
        start = [grant(HOUSE, 1, 1, 1), grant(1, 2, 1, 1), grant(2, 3, 1), grant(HOUSE, 2, 1), grant(HOUSE, 1, 2)]
        self.assertEqual(
            told(*start, revoke(1, 2, 1), grants(1), grants(2))[6:],
            [rows((1, 0, 1, 1), (4, 0, 2, 0)), rows((5, 0, 1, 0))])

    def test_what_goes_when_one_leaves(self):
        start = [grant(HOUSE, 1, 1, 1), grant(1, 2, 1, 1), grant(2, 3, 1), grant(HOUSE, 3, 2, 1), grant(3, 2, 2)]
        self.assertEqual(
            told(*start, leave(2), grants(1), grants(2))[6:], [rows((1, 0, 1, 1)), rows((4, 0, 3, 1))])

    def test_what_is_taken_over_keeps_its_number_and_leave_with_the_new_giver(self):
        start = [grant(HOUSE, 1, 1, 1), grant(1, 2, 1, 1), grant(2, 3, 1, 1), grant(3, 4, 1), grant(2, 5, 1),
                 grant(2, 1, 1, 1), grant(HOUSE, 2, 1, 1), grant(2, 6, 1)]
        self.assertEqual(
            last_told(*start, over(1, 2, 1), grants(1)),
            rows((1, 0, 1, 1), (3, 1, 3, 1), (4, 3, 4, 0), (5, 1, 5, 0), (7, 0, 2, 1), (8, 2, 6, 0)))

    def test_it_is_taken_over_whatever_the_users_are(self):
        for a, b, c in ((12, 6, 1), (12, 1, 6), (1, 12, 6), (6, 1, 12), (6, 12, 1)):
            self.assertEqual(
                last_told(grant(HOUSE, a, 1, 1), grant(a, b, 1, 1), grant(b, c, 1), over(a, b, 1), grants(1)),
                rows((1, 0, a, 1), (3, a, c, 0)))

    def test_the_house_takes_over(self):
        self.assertEqual(
            last_told(grant(HOUSE, 1, 1, 1), leave(9), grant(1, 2, 1), grant(1, 3, 1, 1), over(HOUSE, 1, 1), grants(1)),
            rows((3, 0, 2, 0), (4, 0, 3, 1)))

    def test_a_number_is_not_given_again(self):
        self.assertEqual(
            last_told(grant(HOUSE, 1, 1), revoke(HOUSE, 1, 1), grant(HOUSE, 1, 1), grants(1)), rows((3, 0, 1, 0)))


class Tickets(unittest.TestCase):
    def test_all_numbers_of_each(self):
        start = [grant(HOUSE, 1, 3), ticket(1, 2, 3), leave(9), ticket(1, 2, 3, [0, 1, 5, 2, 3, 100000]),
                 ticket(1, 4, 3, [1, 2, 0])]
        self.assertEqual(
            told(*start, tickets(2), tickets(4), tickets(1))[5:],
            [[2, 2, 1, 3, 0, 1, 0, 4, 1, 3, 0, 1, 2, 0, 1, 5, 2, 3, 100000], [1, 5, 1, 3, 0, 1, 1, 1, 2, 0], [0]])

    def test_a_narrowed_one_tells_its_maker_door_source_and_all_caveats_in_order(self):
        start = [grant(HOUSE, 1, 4), ticket(1, 2, 4, [2, 1, 7, 0, 3, 9]), narrow(2, 2, 3, [1, 2, 8]),
                 narrow(3, 3, 3, []), narrow(3, 4, 2, [0, 1, 6, 2, 2, 2])]
        self.assertEqual(
            told(*start, tickets(3), tickets(2))[5:],
            [[2, 3, 1, 4, 2, 1, 3, 2, 1, 7, 0, 3, 9, 1, 2, 8, 4, 1, 4, 3, 1, 3, 2, 1, 7, 0, 3, 9, 1, 2, 8],
             [2, 2, 1, 4, 0, 1, 2, 2, 1, 7, 0, 3, 9, 5, 1, 4, 4, 1, 5, 2, 1, 7, 0, 3, 9, 1, 2, 8, 0, 1, 6, 2, 2, 2]])

    def test_a_ticket_narrowed_twice_is_the_source_of_both(self):
        start = [grant(HOUSE, 1, 1), ticket(1, 2, 1, [0, 1, 5]), narrow(2, 2, 3, [0, 2, 5]), narrow(2, 2, 3, [0, 3, 5])]
        self.assertEqual(
            told(*start, tickets(3), tickets(2))[4:],
            [[2, 3, 1, 1, 2, 1, 2, 0, 1, 5, 0, 2, 5, 4, 1, 1, 2, 1, 2, 0, 1, 5, 0, 3, 5],
             [1, 2, 1, 1, 0, 1, 1, 0, 1, 5]])

    def test_eight_caveats(self):
        eight = [0, 1, 1, 1, 2, 2, 2, 3, 3, 0, 1, 4, 1, 2, 5, 2, 3, 6, 0, 1, 7, 1, 2, 8]
        start = [grant(HOUSE, 1, 1), ticket(1, 2, 1, eight), ticket(1, 2, 1, eight[:9]), narrow(2, 3, 3, eight[9:])]
        self.assertEqual(last_told(*start, tickets(3)), [1, 4, 1, 1, 3, 1, 8] + eight)
        self.assertEqual(last_told(*start, tickets(2)), [2, 2, 1, 1, 0, 1, 8] + eight + [3, 1, 1, 0, 1, 3] + eight[:9])

    def test_whether_its_maker_has_the_right_now(self):
        start = [grant(HOUSE, 1, 1, 1), ticket(1, 2, 1), narrow(2, 2, 2)]
        good = [2, 2, 1, 1, 0, 1, 0, 3, 1, 1, 2, 1, 0]
        lost = [2, 2, 1, 1, 0, 0, 0, 3, 1, 1, 2, 0, 0]
        self.assertEqual(
            told(*start, tickets(2), revoke(HOUSE, 1, 1), tickets(2), grant(HOUSE, 1, 2, 1), grant(HOUSE, 2, 1, 1),
                 tickets(2), grant(2, 1, 1), tickets(2))[3:],
            [good, [4], lost, [5], [6], lost, [7], good])

    def test_tickets_stay_when_their_maker_and_who_has_them_leave(self):
        self.assertEqual(
            told(grant(HOUSE, 1, 1), ticket(1, 2, 1), leave(2), tickets(2), leave(1), tickets(2))[3:],
            [[1, 2, 1, 1, 0, 1, 0], [4], [1, 2, 1, 1, 0, 0, 0]])

    def test_made_for_oneself(self):
        self.assertEqual(last_told(grant(HOUSE, 1, 1), ticket(1, 1, 1), tickets(1)), [1, 2, 1, 1, 0, 1, 0])

    def test_makers_and_doors_of_several(self):
        start = [grant(HOUSE, 1, 1), grant(HOUSE, 12, 4), ticket(12, 5, 4), ticket(1, 5, 1)]
        self.assertEqual(last_told(*start, tickets(5)), [2, 3, 12, 4, 0, 1, 0, 4, 1, 1, 0, 1, 0])
        self.assertEqual(last_told(*start, leave(12), tickets(5)), [2, 3, 12, 4, 0, 0, 0, 4, 1, 1, 0, 1, 0])

    def test_wrong_numbers(self):
        start = [grant(HOUSE, 1, 1), ticket(1, 12, 1)]
        self.assertEqual(
            told(*start, *[tickets(u) for u in (0, 13, MOST, 1, 12)])[2:],
            [[-1], [-1], [-1], [0], [1, 2, 1, 1, 0, 1, 0]])


class Chains(unittest.TestCase):
    def test_by_the_house_alone(self):
        self.assertEqual(told(leave(9), grant(HOUSE, 1, 1), chain(1, 1))[2:], [[1, 2]])

    def test_through_several_givers(self):
        start = [grant(HOUSE, 4, 1, 1), leave(9), grant(4, 3, 1, 1), grant(HOUSE, 1, 1), grant(3, 2, 1, 1),
                 grant(2, 5, 1)]
        self.assertEqual(
            told(*start, chain(5, 1), chain(2, 1), chain(3, 1), chain(4, 1), chain(1, 1))[6:],
            [[4, 1, 3, 5, 6], [3, 1, 3, 5], [2, 1, 3], [1, 1], [1, 4]])

    def test_its_last_is_the_first_that_gives_it_with_or_without_leave(self):
        start = [grant(HOUSE, 1, 1, 1), grant(1, 2, 1, 0), grant(HOUSE, 2, 1, 1), grant(2, 3, 1), grant(HOUSE, 3, 1, 1)]
        self.assertEqual(told(*start, chain(2, 1), chain(3, 1))[5:], [[2, 1, 2], [2, 3, 4]])

    def test_a_giver_with_a_grant_without_leave_ahead_of_one_with_leave(self):
        start = [grant(HOUSE, 2, 1), grant(HOUSE, 1, 1, 1), grant(1, 2, 1, 1), grant(HOUSE, 2, 1, 1), grant(2, 3, 1)]
        self.assertEqual(told(*start, chain(3, 1), chain(2, 1))[5:], [[3, 2, 3, 5], [1, 1]])

    def test_the_first_with_leave_of_several(self):
        start = [grant(HOUSE, 1, 1, 1), grant(HOUSE, 2, 1, 1), grant(2, 1, 1, 1), grant(1, 3, 1)]
        self.assertEqual(last_told(*start, chain(3, 1)), [2, 1, 4])

    def test_each_right_has_its_own(self):
        start = [grant(HOUSE, 1, 1, 1), grant(HOUSE, 1, 2, 1), grant(1, 2, 2), grant(1, 2, 1)]
        self.assertEqual(told(*start, chain(2, 1), chain(2, 2))[4:], [[2, 1, 4], [2, 2, 3]])

    def test_grants_in_a_ring(self):
        start = [grant(HOUSE, 1, 1, 1), grant(1, 2, 1, 1), grant(2, 1, 1, 1), grant(1, 3, 1)]
        self.assertEqual(told(*start, chain(1, 1), chain(2, 1), chain(3, 1))[4:], [[1, 1], [2, 1, 2], [2, 1, 4]])

    def test_when_the_first_goes_the_next_takes_its_place(self):
        start = [grant(HOUSE, 1, 1, 1), grant(1, 2, 1, 1), grant(HOUSE, 2, 1, 1), grant(2, 3, 1)]
        self.assertEqual(
            told(*start, chain(3, 1), revoke(1, 2, 1), chain(3, 1), chain(2, 1))[4:],
            [[3, 1, 2, 4], [5], [2, 3, 4], [1, 3]])

    def test_what_is_taken_over_comes_from_the_new_giver(self):
        start = [grant(HOUSE, 1, 1, 1), grant(1, 2, 1, 1), grant(2, 3, 1, 1), grant(3, 4, 1)]
        self.assertEqual(
            told(*start, chain(4, 1), over(1, 2, 1), chain(4, 1), over(HOUSE, 1, 1), chain(4, 1))[4:],
            [[4, 1, 2, 3, 4], [5], [3, 1, 3, 4], [6], [2, 3, 4]])

    def test_as_long_as_it_can_be(self):
        start = [grant(user, user + 1, 1, 1) for user in range(12)]
        self.assertEqual(last_told(*start, chain(12, 1)), [12] + list(range(1, 13)))

    def test_who_has_nothing_of_it(self):
        start = [grant(HOUSE, 1, 1), ticket(1, 2, 1)]
        self.assertEqual(
            told(*start, chain(2, 1), chain(1, 2), revoke(HOUSE, 1, 1), chain(1, 1))[2:], [[-3], [-3], [3], [-3]])
        self.assertEqual(last_told(chain(12, 4)), [-3])

    def test_wrong_numbers_are_told_ahead(self):
        for user, door in ((0, 1), (13, 1), (MOST, 1), (1, 0), (1, 5), (1, MOST), (0, 0)):
            with self.subTest(user=user, door=door):
                self.assertEqual(told(chain(user, door), grant(HOUSE, 1, 1), chain(user, door)), [[-1], [1], [-1]])
        self.assertEqual(last_told(grant(HOUSE, 12, 4), chain(12, 4)), [1, 1])


class Allowers(unittest.TestCase):
    START = [grant(HOUSE, user, 1, 1) for user in (1, 2, 3, 12)] + [grant(HOUSE, 5, 1)]

    def test_those_others_who_have_allowed_rising(self):
        allowing = [allow(12, 1), allow(3, 1), allow(1, 1)]
        self.assertEqual(
            told(*self.START, *allowing, *[allowers(u, 1) for u in (5, 1, 12, 2, 7)])[8:],
            [[3, 1, 3, 12], [2, 3, 12], [2, 1, 3], [3, 1, 3, 12], [3, 1, 3, 12]])

    def test_nobody_at_first_and_nobody_else(self):
        self.assertEqual(
            told(allowers(1, 1), *self.START, allowers(5, 1), allow(1, 1), allowers(1, 1), allowers(5, 1)),
            [[0]] + [[k] for k in range(1, 6)] + [[0], [6], [0], [1, 1]])

    def test_once_more_says_nothing(self):
        self.assertEqual(last_told(*self.START, allow(1, 1), allow(1, 1), allowers(5, 1)), [1, 1])

    def test_who_has_no_leave_now_is_none(self):
        self.assertEqual(
            told(*self.START, allow(1, 1), allow(2, 1), revoke(HOUSE, 1, 1), allowers(5, 1), grant(HOUSE, 1, 1),
                 allowers(5, 1), grant(2, 1, 1, 1), allowers(5, 1))[8:],
            [[1, 2], [9], [1, 2], [10], [2, 1, 2]])

    def test_once_opened_nobody_has_allowed_the_next_one(self):
        self.assertEqual(
            told(*self.START, quorum(1, 1), allow(1, 1), opening(6, 1), allowers(5, 1), opening(5, 1), allowers(5, 1),
                 allow(2, 1), allowers(5, 1))[7:],
            [[-6], [1, 1], [8], [0], [9], [1, 2]])

    def test_each_door_has_its_own(self):
        self.assertEqual(
            told(*self.START, grant(HOUSE, 3, 4, 1), allow(3, 4), allow(1, 1), allowers(5, 1), allowers(5, 4),
                 allowers(5, 2), opening(3, 4), allowers(5, 1), allowers(5, 4))[8:],
            [[1, 1], [1, 3], [0], [9], [1, 1], [0]])

    def test_wrong_numbers(self):
        for user, door in ((0, 1), (13, 1), (MOST, 1), (1, 0), (1, 5), (1, MOST), (0, 0)):
            with self.subTest(user=user, door=door):
                self.assertEqual(told(*self.START, allow(1, 1), allowers(user, door))[6:], [[-1]])
        self.assertEqual(last_told(grant(HOUSE, 1, 4, 1), allow(1, 4), allowers(12, 4)), [1, 1])
        self.assertEqual(said(allowers(0, 5), grant(HOUSE, 1, 1)), [-1, 1])


if __name__ == "__main__":
    unittest.main()
