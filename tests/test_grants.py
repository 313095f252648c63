"""Promise 1: grant, revoke, over and leave."""

import unittest

from tests.lines import HOUSE, MOST, allow, grant, last, leave, narrow, opening, over, revoke, said, ticket

WRONG_GIFTS = (
    (13, 1, 1), (MOST, 1, 1), (0, 0, 1), (0, 13, 1), (0, MOST, 1), (0, 1, 0), (0, 1, 5), (0, 1, MOST), (1, 1, 1),
    (12, 12, 4),
)


class Granting(unittest.TestCase):
    def test_things_done_are_numbered_from_one(self):
        self.assertEqual(said(grant(HOUSE, 1, 1, 1), grant(1, 2, 1), opening(2, 1)), [1, 2, 3])

    def test_what_is_refused_has_no_number_and_changes_nothing(self):
        self.assertEqual(
            said(grant(1, 2, 1), opening(2, 1), grant(HOUSE, 1, 1), grant(1, 2, 1), grant(HOUSE, 2, 2), opening(2, 1)),
            [-6, -6, 1, -6, 2, -6])

    def test_a_right_without_leave_is_not_handed_on(self):
        self.assertEqual(said(grant(HOUSE, 1, 1, 0), grant(1, 2, 1), opening(1, 1)), [1, -6, 2])

    def test_leave_is_for_one_right_alone(self):
        self.assertEqual(said(grant(HOUSE, 1, 1, 1), grant(1, 2, 2), grant(1, 2, 1)), [1, -6, 2])

    def test_a_grant_with_leave_among_several_lets_hand_on(self):
        with_leave = grant(HOUSE, 1, 1, 1)
        without = grant(HOUSE, 1, 1, 0)
        self.assertEqual(last(with_leave, without, grant(1, 2, 1)), 3)
        self.assertEqual(last(without, with_leave, grant(1, 2, 1)), 3)
        self.assertEqual(last(without, without, grant(1, 2, 1)), -6)

    def test_the_right_opens_its_own_door_alone(self):
        self.assertEqual(
            said(grant(HOUSE, 1, 2), opening(1, 1), opening(1, 3), opening(2, 2), opening(1, 2)), [1, -6, -6, -6, 2])

    def test_the_last_user_and_door_are_known(self):
        self.assertEqual(said(grant(HOUSE, 12, 4, 1), grant(12, 11, 4, 1), grant(11, 12, 4, 0)), [1, 2, 3])

    def test_wrong_numbers(self):
        for a, b, r in WRONG_GIFTS:
            with self.subTest(a=a, b=b, r=r):
                self.assertEqual(said(grant(a, b, r, 1), leave(12)), [-1, 1])
        self.assertEqual(said(grant(0, 1, 1, 2), grant(0, 1, 1, MOST), opening(1, 1)), [-1, -1, -6])

    def test_wrong_is_told_ahead_of_may_not(self):
        self.assertEqual(said(grant(1, 1, 1), grant(1, 2, 1, 2), grant(1, 2, 5), grant(1, 2, 1)), [-1, -1, -1, -6])

    def test_fourteen_grants_of_a_right(self):
        given = said(*[grant(HOUSE, 1 + k % 12, 1, 1) for k in range(14)], grant(HOUSE, 3, 1), grant(3, 4, 1),
                     grant(HOUSE, 3, 2), revoke(HOUSE, 12, 1), grant(HOUSE, 12, 1), grant(HOUSE, 12, 1))
        self.assertEqual(given, list(range(1, 15)) + [-5, -5, 15, 16, 17, -5])

    def test_may_not_and_wrong_are_told_ahead_of_fourteen(self):
        full = [grant(HOUSE, 1, 1) for k in range(14)]
        self.assertEqual(said(*full, grant(1, 2, 1), grant(0, 0, 1))[14:], [-6, -1])


class TakenBack(unittest.TestCase):
    def test_the_taker_has_it_no_longer(self):
        self.assertEqual(
            said(grant(HOUSE, 1, 1), opening(1, 1), revoke(HOUSE, 1, 1), opening(1, 1)), [1, 2, 3, -6])

    def test_all_grants_by_one_to_another_go(self):
        self.assertEqual(
            said(grant(HOUSE, 1, 1), grant(HOUSE, 1, 1, 1), revoke(HOUSE, 1, 1), opening(1, 1), revoke(HOUSE, 1, 1)),
            [1, 2, 3, -6, -3])

    def test_grants_of_others_to_others_and_of_other_rights_stay(self):
        start = [grant(HOUSE, 1, 1, 1), grant(HOUSE, 2, 1), grant(1, 2, 1), grant(1, 3, 1), grant(HOUSE, 2, 2)]
        self.assertEqual(
            said(*start, revoke(1, 2, 1), opening(2, 1), opening(3, 1), opening(2, 2), revoke(HOUSE, 2, 1),
                 opening(2, 1))[5:],
            [6, 7, 8, 9, 10, -6])

    def test_what_stood_on_it_goes(self):
        chain = [grant(HOUSE, 1, 1, 1), grant(1, 2, 1, 1), grant(2, 3, 1, 1), grant(3, 4, 1)]
        self.assertEqual(
            said(*chain, opening(4, 1), revoke(1, 2, 1), opening(4, 1), opening(3, 1), opening(2, 1), opening(1, 1),
                 revoke(3, 4, 1))[4:],
            [5, 6, -6, -6, -6, 7, -3])

    def test_what_stands_on_another_grant_ahead_stays(self):
        self.assertEqual(
            said(grant(HOUSE, 1, 1, 1), grant(1, 2, 1, 1), grant(HOUSE, 2, 1, 1), grant(2, 3, 1), revoke(1, 2, 1),
                 opening(3, 1), opening(2, 1))[4:],
            [5, 6, 7])

    def test_a_grant_behind_does_not_hold_one_up(self):
        self.assertEqual(
            said(grant(HOUSE, 1, 1, 1), grant(1, 2, 1, 1), grant(2, 3, 1), grant(HOUSE, 2, 1, 1), revoke(1, 2, 1),
                 opening(3, 1), opening(2, 1))[4:],
            [5, -6, 6])

    def test_a_grant_without_leave_does_not_hold_one_up(self):
        self.assertEqual(
            said(grant(HOUSE, 2, 1, 0), grant(HOUSE, 1, 1, 1), grant(1, 2, 1, 1), grant(2, 3, 1), revoke(1, 2, 1),
                 opening(3, 1), opening(2, 1))[4:],
            [5, -6, 6])

    def test_leave_for_another_right_does_not_hold_one_up(self):
        self.assertEqual(
            said(grant(HOUSE, 1, 2, 1), grant(HOUSE, 1, 1, 1), grant(1, 3, 1), grant(1, 3, 2), revoke(HOUSE, 1, 1),
                 opening(3, 1), opening(3, 2))[4:],
            [5, -6, 6])

    def test_grants_in_a_ring_do_not_hold_one_another_up(self):
        self.assertEqual(
            said(grant(HOUSE, 1, 1, 1), grant(1, 2, 1, 1), grant(2, 1, 1, 1), revoke(HOUSE, 1, 1), opening(1, 1),
                 opening(2, 1))[3:],
            [4, -6, -6])

    def test_wrong_numbers(self):
        for a, b, r in WRONG_GIFTS:
            with self.subTest(a=a, b=b, r=r):
                self.assertEqual(said(revoke(a, b, r), leave(12)), [-1, 1])

    def test_no_such_grant(self):
        self.assertEqual(
            said(grant(HOUSE, 1, 1, 1), grant(1, 2, 1), revoke(HOUSE, 2, 1), revoke(2, 1, 1), revoke(1, 2, 2),
                 revoke(12, 11, 4), opening(2, 1), revoke(1, 2, 1)),
            [1, 2, -3, -3, -3, -3, 3, 4])


class TakenOver(unittest.TestCase):
    def test_what_was_handed_on_stays_with_the_other_giver(self):
        start = [grant(HOUSE, 1, 1, 1), grant(1, 2, 1, 1), grant(2, 3, 1, 1), grant(3, 4, 1), over(1, 2, 1)]
        self.assertEqual(
            said(*start, opening(2, 1), opening(3, 1), opening(4, 1), allow(3, 1), revoke(2, 3, 1), revoke(1, 3, 1),
                 opening(3, 1), opening(4, 1))[4:],
            [5, -6, 6, 7, 8, -3, 9, -6, -6])

    def test_leave_or_no_leave_stays_as_it_was(self):
        self.assertEqual(
            said(grant(HOUSE, 1, 1, 1), grant(1, 2, 1, 1), grant(2, 3, 1), over(1, 2, 1), grant(3, 4, 1),
                 opening(3, 1))[3:],
            [4, -6, 5])

    def test_it_keeps_its_place_in_the_order(self):
        # 3's grant to 4 is older than the house's to 3: it stands only as long as the one ahead of it.
        self.assertEqual(
            said(grant(HOUSE, 1, 1, 1), grant(1, 2, 1, 1), grant(2, 3, 1, 1), grant(3, 4, 1), grant(HOUSE, 3, 1, 1),
                 over(1, 2, 1), opening(4, 1), revoke(1, 3, 1), opening(4, 1), opening(3, 1))[5:],
            [6, 7, 8, -6, 9])

    def test_the_house_takes_over(self):
        self.assertEqual(
            said(grant(HOUSE, 1, 1, 1), grant(1, 2, 1), over(HOUSE, 1, 1), opening(1, 1), opening(2, 1),
                 revoke(1, 2, 1), revoke(HOUSE, 2, 1))[2:],
            [3, -6, 4, -3, 5])

    def test_all_grants_by_one_to_another_go(self):
        self.assertEqual(
            said(grant(HOUSE, 1, 1, 1), grant(HOUSE, 1, 1, 1), over(HOUSE, 1, 1), opening(1, 1), over(HOUSE, 1, 1)),
            [1, 2, 3, -6, -3])

    def test_what_the_giver_may_still_give_stays_as_it_is(self):
        self.assertEqual(
            said(grant(HOUSE, 1, 1, 1), grant(HOUSE, 2, 1, 1), grant(1, 2, 1, 1), grant(2, 3, 1), over(1, 2, 1),
                 opening(2, 1), revoke(1, 3, 1), revoke(2, 3, 1))[4:],
            [5, 6, -3, 7])

    def test_only_grants_ahead_let_it_stay_as_it_is(self):
        self.assertEqual(
            said(grant(HOUSE, 1, 1, 1), grant(1, 2, 1, 1), grant(2, 3, 1), grant(HOUSE, 2, 1, 1), grant(2, 5, 1),
                 over(1, 2, 1), revoke(2, 3, 1), revoke(1, 3, 1), revoke(1, 5, 1), revoke(2, 5, 1))[5:],
            [6, -3, 7, -3, 8])

    def test_what_was_given_back_to_the_one_who_takes_over_goes(self):
        self.assertEqual(
            said(grant(HOUSE, 1, 1, 1), grant(1, 2, 1, 1), grant(2, 1, 1, 1), grant(2, 3, 1), over(1, 2, 1),
                 revoke(2, 1, 1), opening(1, 1), opening(3, 1), revoke(HOUSE, 1, 1), opening(1, 1))[4:],
            [5, -3, 6, 7, 8, -6])

    def test_what_goes_leaves_room_among_the_fourteen(self):
        start = [grant(HOUSE, 1, 1, 1), grant(1, 2, 1, 1), grant(2, 1, 1, 1), grant(2, 3, 1)]
        self.assertEqual(
            said(*start, *[grant(HOUSE, 4, 1)] * 10, grant(HOUSE, 4, 1), over(1, 2, 1), *[grant(HOUSE, 4, 1)] * 3)[14:],
            [-5, 15, 16, 17, -5])

    def test_what_was_taken_over_holds_up_what_is_behind_it(self):
        # 3 has its right from 1 then, so 3's grant to 2 stays, and by it 2's grant to 4.
        self.assertEqual(
            said(grant(HOUSE, 1, 1, 1), grant(1, 2, 1, 1), grant(2, 3, 1, 1), grant(3, 2, 1, 1), grant(2, 4, 1),
                 over(1, 2, 1), opening(2, 1), revoke(1, 4, 1), revoke(2, 4, 1))[5:],
            [6, 7, -3, 8])

    def test_other_rights_are_left_alone(self):
        self.assertEqual(
            said(grant(HOUSE, 1, 1, 1), grant(1, 2, 1, 1), grant(HOUSE, 2, 2, 1), grant(2, 3, 2), over(1, 2, 1),
                 opening(2, 2), revoke(1, 3, 2), revoke(2, 3, 2))[4:],
            [5, 6, -3, 7])

    def test_grants_of_others_are_left_alone(self):
        self.assertEqual(
            said(grant(HOUSE, 1, 1, 1), grant(1, 2, 1, 1), grant(1, 4, 1, 1), grant(4, 5, 1), over(1, 2, 1),
                 revoke(1, 5, 1), revoke(4, 5, 1), revoke(1, 4, 1))[4:],
            [5, -3, 6, 7])

    def test_wrong_numbers(self):
        for a, b, r in WRONG_GIFTS:
            with self.subTest(a=a, b=b, r=r):
                self.assertEqual(said(over(a, b, r), leave(12)), [-1, 1])

    def test_no_such_grant(self):
        self.assertEqual(
            said(grant(HOUSE, 1, 1, 1), grant(1, 2, 1), over(HOUSE, 2, 1), over(2, 1, 1), over(1, 2, 2),
                 over(12, 11, 4), opening(2, 1), over(1, 2, 1), opening(2, 1)),
            [1, 2, -3, -3, -3, -3, 3, 4, -6])


class Leaving(unittest.TestCase):
    def test_grants_by_and_to_the_user_go_and_what_stood_on_them(self):
        start = [grant(HOUSE, 1, 1, 1), grant(1, 2, 1, 1), grant(2, 3, 1, 1), grant(3, 4, 1), grant(HOUSE, 2, 2),
                 grant(HOUSE, 4, 2)]
        self.assertEqual(
            said(*start, leave(2), opening(1, 1), opening(2, 1), opening(3, 1), opening(4, 1), opening(2, 2),
                 opening(4, 2))[6:],
            [7, 8, -6, -6, -6, -6, 9])

    def test_what_stands_on_another_grant_ahead_stays(self):
        self.assertEqual(
            said(grant(HOUSE, 1, 1, 1), grant(1, 3, 1, 1), grant(HOUSE, 3, 1, 1), grant(3, 4, 1), leave(1),
                 opening(3, 1), opening(4, 1))[4:],
            [5, 6, 7])

    def test_who_has_nothing_may_leave(self):
        self.assertEqual(said(leave(1), leave(12), grant(HOUSE, 1, 1), leave(2), opening(1, 1)), [1, 2, 3, 4, 5])

    def test_tickets_stay(self):
        self.assertEqual(
            said(grant(HOUSE, 1, 1), ticket(1, 2, 1), leave(2), opening(2, 1, 2), narrow(2, 2, 3), leave(1),
                 opening(2, 1, 2), grant(HOUSE, 1, 1), opening(2, 1, 2), opening(3, 1, 5)),
            [1, 2, 3, 4, 5, 6, -6, 7, 8, 9])

    def test_wrong_numbers(self):
        self.assertEqual(
            said(grant(HOUSE, 1, 1), leave(0), leave(13), leave(MOST), opening(1, 1)), [1, -1, -1, -1, 2])


if __name__ == "__main__":
    unittest.main()
