"""The list of calls and the list of answers; and sixty things at most."""

import unittest

from granthouse.doors import answers
from tests.lines import (
    HOUSE, MOST, allow, grant, leave, narrow, opening, over, policy, quorum, revoke, said, ticket, whole_line,
)

EVERY_CALL = (
    grant(HOUSE, 1, 1, 1), grant(1, 2, 1, 1), over(1, 2, 1), revoke(HOUSE, 1, 1), leave(3), policy(1, [0, 1, 0]),
    quorum(2, 1), grant(HOUSE, 1, 1, 1), ticket(1, 2, 1, [0, 1, 5]), narrow(2, 9, 3, [2, 2, 1, 1, 3, 2]),
    allow(1, 1), opening(3, 1, 10, [0, 1, 2, 3]),
)
SIXTY = [leave(1)] * 60
WRONG_CALLS = (
    grant(13, 0, 0, 2), revoke(13, 0, 0), over(13, 0, 0), leave(0), policy(0, [9]), quorum(0, 9),
    ticket(0, 0, 0, [1]), narrow(0, 0, 0, [1]), allow(0, 0), opening(0, 0, 9, []),
)


class Lists(unittest.TestCase):
    def test_a_call_alone(self):
        self.assertEqual(answers([3, 1]), [1, 1])
        self.assertEqual(answers([3, 0]), [1, -1])

    def test_every_call_as_it_stands_in_the_list(self):
        line = [0, 0, 1, 1, 1, 4, 1, 3, 0, 1, 0, 6, 1, 2, 1, 3, 0, 1, 5, 7, 2, 3, 3, 0, 8, 1, 1, 5, 1, 1,
                9, 3, 1, 4, 4, 5, 0, 0, 0, 1, 0, 1, 1, 2, 0, 1, 1, 3, 1, 9, 1, 1, 0, 0]
        self.assertEqual(answers(line), [1, 1, 1, 2, 1, 3, 1, 4, 1, 5, 1, 6, 1, 7, 1, 8, 1, -3, 1, 9, 1, -1])

    def test_every_call_answers_its_number(self):
        self.assertEqual(said(*EVERY_CALL), list(range(1, 13)))

    def test_rows_are_read_to_their_end_when_refused_too(self):
        self.assertEqual(
            said(policy(1, [7] * 220), ticket(1, 2, 1, [7] * 30), narrow(1, 2, 1, [7] * 30),
                 opening(1, 1, 0, [7] * 6), leave(1)),
            [-1, -1, -1, -1, 1])

    def test_a_row_of_no_numbers(self):
        self.assertEqual(
            said(policy(1, []), opening(1, 1, 0, []), ticket(1, 2, 1, []), narrow(1, 2, 1, []), leave(1)),
            [1, -1, -6, -2, 2])

    def test_what_is_handed_in_stays_as_it_was(self):
        line = whole_line(EVERY_CALL)
        before = list(line)
        answers(line)
        self.assertEqual(line, before)

    def test_the_same_list_twice_gives_the_same(self):
        line = whole_line(EVERY_CALL)
        first = answers(line)
        self.assertEqual(answers(line), first)
        first.append(0)
        self.assertEqual(answers(line), first[:-1])

    def test_nothing_is_kept_from_one_list_to_the_next(self):
        self.assertEqual(said(grant(HOUSE, 1, 1, 1), quorum(1, 1), policy(2, [0, 2, 0]), allow(1, 1)), [1, 2, 3, 4])
        self.assertEqual(said(opening(1, 1), grant(HOUSE, 1, 1), opening(1, 1), grant(HOUSE, 1, 2), opening(1, 2)),
                         [-6, 1, 2, 3, 4])
        self.assertEqual(said(grant(HOUSE, 1, 1, 1), grant(HOUSE, 2, 1, 1), quorum(1, 1), opening(2, 1)),
                         [1, 2, 3, -6])

    def test_answers_are_whole_numbers_in_a_list(self):
        given = answers(whole_line(EVERY_CALL + WRONG_CALLS))
        self.assertIs(type(given), list)
        self.assertEqual({type(number) for number in given}, {int})


class Sixty(unittest.TestCase):
    def test_the_sixtieth_is_done_and_the_next_is_not(self):
        self.assertEqual(said(*SIXTY, leave(1)), list(range(1, 61)) + [-5])

    def test_every_call_is_refused_then(self):
        self.assertEqual(said(*SIXTY, *EVERY_CALL)[60:], [-5] * len(EVERY_CALL))

    def test_it_is_told_ahead_of_all_else(self):
        self.assertEqual(said(*WRONG_CALLS), [-1] * 10)
        self.assertEqual(said(*SIXTY[1:], *WRONG_CALLS)[59:], [-1] * 10)
        self.assertEqual(said(*SIXTY, *WRONG_CALLS)[60:], [-5] * 10)
        self.assertEqual(
            said(*SIXTY, grant(1, 2, 1), revoke(1, 2, 1), over(1, 2, 1), ticket(1, 2, 1), narrow(1, MOST, 1),
                 allow(1, 1), opening(1, 1, 5))[60:],
            [-5] * 7)

    def test_what_is_refused_does_not_count(self):
        self.assertEqual(said(*[leave(0)] * 20, *SIXTY), [-1] * 20 + list(range(1, 61)))

    def test_the_sixtieth_may_be_any_of_them(self):
        for call in (grant(HOUSE, 2, 1), policy(1, [0, 1, 0]), quorum(1, 1), ticket(1, 2, 1), allow(1, 1),
                     opening(1, 1), revoke(HOUSE, 1, 1), over(HOUSE, 1, 1)):
            start = [grant(HOUSE, 1, 1, 1)] + [leave(2)] * 58
            self.assertEqual(said(*start, call, call)[59:], [60, -5])


if __name__ == "__main__":
    unittest.main()
