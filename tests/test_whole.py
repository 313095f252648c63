"""What is promised over the whole program, looked at in many different lines."""

import unittest

from granthouse.doors import answers
from tests.lines import (
    HOUSE, MOST, allow, allowers, chain, grant, grants, hang, last_told, leave, length, may, narrow, opened, opening,
    policy, quorum, said, ticket, tickets, told, was, whole_line,
)
from tests.lots import Dice, some_asking, some_doings, some_log

NARROW = 7
OPENING = 9
EVERY_TELLING = (
    may(1, 1), was(0, 1, 1), hang(1), opened(), grants(1), tickets(1), chain(1, 1), allowers(1, 1), length(),
)
REFUSED_TELLING = (
    may(0, 1), was(MOST, 1, 1), was(0, 0, 1), hang(0), hang(MOST), grants(0), tickets(0), chain(0, 1), chain(11, 4),
    allowers(0, 1),
)


def renumbered(call, numbers):
    """The call with the ticket that it names under its new number; under one that's never there if it has none."""
    place = {NARROW: 2, OPENING: 3}.get(call[0])
    if place is None or call[place] == 0:
        return call
    return call[:place] + [numbers.get(call[place], MOST)] + call[place + 1:]


def hanging_by_doing(log, left_out):
    """What hang should answer, found by doing the rest in a new house, where each thing gets another number."""
    calls, numbers, found = [], {}, []
    for number, call in enumerate(log, start=1):
        if number != left_out:
            calls.append(renumbered(call, numbers))
            given = said(*calls)[-1]
            if given > 0:
                numbers[number] = given
        if number not in numbers and call[0] == OPENING:
            found.append(number)
    return [len(found)] + found


def refused(*given):
    raise AssertionError("the list that was handed in is changed")


class Unchanging(list):
    """A list that tells when it is changed, be it for a while."""

    append = extend = insert = pop = remove = clear = sort = reverse = refused
    __setitem__ = __delitem__ = __iadd__ = __imul__ = refused


class ManyLines(unittest.TestCase):
    def test_was_answers_what_may_answered(self):
        seen = set()
        for seed in range(50):
            log = some_log(seed, 40)
            dice = Dice(seed + 1000)
            for moment in range(len(log) + 1):
                asking = some_asking(dice, len(log))
                then = last_told(*log[:moment], asking)
                self.assertEqual(last_told(*log, [11, moment] + asking[1:]), then)
                seen.add(tuple(then[:3]))
        # Whether it may be, by (1) and by (2): each way that there is has come up.
        self.assertEqual(seen, {(1, 1, 1), (0, 1, 1), (0, 1, 0), (0, 0, 1), (0, 0, 0)})

    def test_what_hangs_is_what_is_not_done_in_a_new_house(self):
        hanging = 0
        for seed in range(40):
            log = some_log(seed, 40)
            wanted = [hanging_by_doing(log, number) for number in range(1, len(log) + 1)]
            self.assertEqual([last_told(*log, hang(number)) for number in range(1, len(log) + 1)], wanted)
            hanging += sum(many[0] for many in wanted)
        self.assertGreater(hanging, 300)

    def test_an_opening_is_done_just_when_it_may_be(self):
        done = {True: 0, False: 0}
        for seed in range(100, 140):
            calls, given = some_doings(seed, 40)
            for at, call in enumerate(calls):
                if call[0] == OPENING:
                    told_of = last_told(*calls[:at], [10] + call[1:])
                    self.assertEqual(told_of[0], int(given[at] > 0))
                    self.assertEqual(last_told(*calls[:at], allowers(call[1], call[2]))[0], told_of[3])
                    done[given[at] > 0] += 1
        self.assertGreater(min(done.values()), 50)

    def test_opened_and_length(self):
        for seed in range(200, 220):
            calls, given = some_doings(seed, 60)
            numbers = [number for call, number in zip(calls, given) if call[0] == OPENING and number > 0]
            self.assertEqual(told(*calls, opened(), length())[-2:], [[len(numbers)] + numbers, [max(given)]])

    def test_chains_go_from_grant_to_grant(self):
        longest = 0
        for seed in range(300, 340):
            log = some_log(seed, 30)
            for door in (1, 2):
                row = last_told(*log, grants(door))
                found = [tuple(row[at:at + 4]) for at in range(1, len(row), 4)]
                self.assertEqual(found, sorted(found))
                for user in range(1, 5):
                    wanted = self.chain_in(found, user)
                    self.assertEqual(last_told(*log, chain(user, door)), wanted)
                    longest = max(longest, wanted[0])
        self.assertGreaterEqual(longest, 3)

    def chain_in(self, found, user):
        taken = [row for row in found if row[2] == user]
        if not taken:
            return [-3]
        numbers = [taken[0][0]]
        giver = taken[0][1]
        while giver != HOUSE:
            ahead = min(row for row in found if row[2] == giver and row[3] == 1)
            numbers.insert(0, ahead[0])
            giver = ahead[1]
        return [len(numbers)] + numbers

    def test_telling_changes_nothing(self):
        for seed in range(400, 410):
            calls, given = some_doings(seed, 30)
            for telling in EVERY_TELLING + REFUSED_TELLING:
                mixed = []
                for call in calls:
                    mixed += [telling, call]
                self.assertEqual([number for number, in told(*mixed)[1::2]], given)
                self.assertEqual(last_told(*mixed, telling, length()), [max(given)])
            for telling in EVERY_TELLING:
                between = told(*calls, *EVERY_TELLING, telling, *EVERY_TELLING)[30:]
                self.assertEqual(between[:9], between[10:])
                self.assertIn(between[9], between[:9])

    def test_what_is_refused_changes_nothing(self):
        for seed in range(500, 520):
            calls, given = some_doings(seed, 50)
            log = [call for call, number in zip(calls, given) if number > 0]
            self.assertEqual(said(*log), list(range(1, len(log) + 1)))
            asked = [hang(1), opened(), grants(1), grants(2), length()]
            for user in range(1, 5):
                asked += [tickets(user), chain(user, 1), allowers(user, 1), may(user, 1), was(len(log), user, 1)]
            self.assertEqual(told(*calls, *asked)[50:], told(*log, *asked)[len(log):])

    def test_lists_one_behind_another_answer_as_each_alone(self):
        lines = [whole_line(some_log(seed, 30) + list(EVERY_TELLING)) for seed in range(600, 606)]
        alone = [answers(line) for line in lines]
        for first in range(6):
            for second in range(6):
                self.assertEqual([answers(lines[first]), answers(lines[second])], [alone[first], alone[second]])

    def test_lists_stay_as_they_were_and_answers_are_new_lists(self):
        for seed in range(700, 710):
            line = whole_line(some_doings(seed, 40)[0] + list(EVERY_TELLING + REFUSED_TELLING))
            before = list(line)
            first = answers(line)
            self.assertEqual(line, before)
            kept = list(first)
            first.clear()
            self.assertEqual(answers(line), kept)
            self.assertEqual({number.__class__ for number in kept}, {int})
            self.assertEqual(answers(Unchanging(line)), kept)


class EightyCalls(unittest.TestCase):
    # Sixty things: user 1 gives 2 the right, there's a policy and a quorum, a ticket narrowed, and openings.
    SIXTY = (
        [grant(HOUSE, 1, 1, 1), grant(1, 2, 1, 1), policy(1, [0, 1, 1, 4, 0, 5]), quorum(1, 1),
         ticket(2, 3, 1, [0, 1, 5]), narrow(3, 5, 4, [2, 2, 1])]
        + [allow(1, 1), opening(4, 1, 6, [5, 1, 0, 5])] * 26 + [allow(1, 1), allow(2, 1)]
    )

    def test_sixty_things_and_then_calls_of_each_kind(self):
        openings = list(range(8, 60, 2))
        asked = [
            may(4, 1, 6, [5, 1, 0, 5]), was(60, 4, 1, 6, [5, 1, 0, 5]), was(59, 4, 1, 6, [5, 1, 0, 5]),
            was(61, 4, 1, 6), was(58, 4, 1, 6, [5, 1, 0, 6]), hang(1), hang(7), hang(60), hang(61), opened(),
            grants(1), tickets(4), tickets(3), chain(2, 1), chain(4, 1), allowers(1, 1), allowers(4, 1), leave(1),
            length(), opening(1, 1),
        ]
        wanted = [
            [1, 1, 1, 2], [1, 1, 1, 2], [1, 1, 1, 1], [-2], [0, 1, 0, 0], [26] + openings, [1, 8], [0], [-2],
            [26] + openings, [2, 1, 0, 1, 1, 2, 1, 2, 1], [1, 6, 2, 1, 5, 1, 2, 0, 1, 5, 2, 2, 1],
            [1, 5, 2, 1, 0, 1, 1, 0, 1, 5], [2, 1, 2], [-3], [1, 2], [2, 1, 2], [-5], [60], [-5],
        ]
        given = told(*self.SIXTY, *asked)
        self.assertEqual(len(given), 80)
        self.assertEqual(given[:60], [[number] for number in range(1, 61)])
        self.assertEqual(given[60:], wanted)

    def test_eighty_calls_that_tell(self):
        self.assertEqual(told(*[length(), opened()] * 40), [[0], [0]] * 40)

    def test_every_telling_call_as_it_stands_in_the_list(self):
        line = [0, 0, 1, 2, 1, 6, 1, 3, 2, 3, 0, 1, 5, 8, 1, 2, 10, 3, 2, 2, 4, 5, 0, 0, 0, 9, 3, 2, 2, 4, 5, 0, 0, 0,
                11, 3, 3, 2, 2, 4, 5, 0, 0, 0, 12, 2, 13, 14, 2, 15, 3, 16, 1, 2, 17, 3, 2, 18, 10, 1, 1, 0, 0,
                11, 9, 1, 1, 0, 0, 11, 0, 1, 1, 0, 0, 18]
        self.assertEqual(answers(line), [
            1, 1, 1, 2, 1, 3, 4, 1, 1, 1, 1, 1, 4, 4, 1, 1, 1, 1, 2, 1, 4, 2, 1, 4, 5, 1, 1, 0, 1, 1,
            10, 1, 2, 1, 2, 0, 1, 1, 0, 1, 5, 2, 1, 1, 1, 0, 1, 4, 1, -1, 1, -2, 1, -1, 1, 4])

    def test_rows_are_read_to_their_end_when_refused_too(self):
        for values in ([], [7], [7] * 5, [7] * 6):
            self.assertEqual(
                said(may(1, 1, 0, values), was(0, 1, 1, 0, values), was(1, 1, 1, 0, values), length()),
                [-1, -1, -2, 0])


if __name__ == "__main__":
    unittest.main()
