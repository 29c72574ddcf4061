"""check: days that can be, and what is answered of those that can't."""

import itertools
import unittest

from telling import HUGE, LineTest, begins, best, check, met, only_these_may_meet, why, wrestler, wrestlers


class NotANumberForEach(LineTest):
    three = wrestlers(1, 2, 1)

    def test_fewer_and_more_numbers_than_wrestlers(self):
        for size in range(9):
            for length in range(11):
                if length != size:
                    calls = wrestlers(*range(size))
                    self.answers_last(calls + [check(*range(length))], -1)
                    self.answers_last(calls + [check(*[0] * length)], -1)

    def test_a_number_of_nobody_who_is_there(self):
        for absent in (3, 4, 8, HUGE):
            for day in ((absent, 1, 2), (0, absent, 2), (0, 1, absent), (absent, absent, absent)):
                self.answers_last(self.three + [check(*day)], -1)
        self.answers_last(wrestlers(*range(8)) + [check(0, 1, 2, 3, 4, 5, 6, 8)], -1)

    def test_it_is_told_ahead_of_the_others(self):
        self.answers_last(self.three + [check(1, 2, 3)], -1)
        self.answers_last(self.three + [check(1, 2)], -1)
        self.answers_last(self.three + [check(1, 2, 0, 0)], -1)
        self.answers_last(self.three + [check(2, 3, 0)], -1)
        self.answers_last(self.three + [check(2, 1, 0, 3)], -1)

    def test_who_was_there_before_begins_is_not_there(self):
        self.answers_last(self.three + [begins(1, 0), check(0, 1, 2)], -1)
        self.answers_last(self.three + [begins(1, 0), wrestler(1), check(0, 1, 2)], -1)
        self.answers_last(self.three + [begins(1, 0), wrestler(1), wrestler(2), check(0, 2)], -1)


class NotMetByTheOneTheyMeet(LineTest):
    def test_the_first_one(self):
        three = wrestlers(1, 2, 3)
        for day, first in (
                ((1, 2, 0), 0), ((2, 0, 1), 0), ((1, 1, 1), 0), ((0, 2, 2), 1), ((0, 0, 2), 1), ((2, 2, 0), 1),
                ((1, 0, 0), 2), ((1, 0, 1), 2), ((0, 1, 1), 2), ((0, 1, 0), 2)):
            self.answers_last(three + [check(*day)], -6, first)

    def test_the_last_of_eight(self):
        eight = wrestlers(*range(8))
        self.answers_last(eight + [check(1, 0, 3, 2, 5, 4, 6, 6)], -6, 7)
        self.answers_last(eight + [check(1, 0, 3, 2, 5, 4, 6, 0)], -6, 7)

    def test_it_is_told_ahead_of_those_who_may_not_meet(self):
        calls = wrestlers(1, 1, 2, 3)
        self.answers_last(calls + [check(1, 0, 3, 3)], -6, 2)
        self.answers_last(calls + [check(1, 0, 2, 2)], -6, 3)
        self.answers_last(calls + [check(1, 0, 2, 0)], -6, 3)
        self.answers_last(calls + [met(2, 3), check(3, 1, 3, 2)], -6, 0)
        self.answers_last(wrestlers(1, 1) + [check(1, 1)], -6, 0)
        self.answers_last(wrestlers(1, 1) + [check(0, 0)], -6, 1)


class MayNotMeet(LineTest):
    def test_of_one_stable(self):
        self.answers_last(wrestlers(1, 1) + [check(1, 0)], -7, 0)
        self.answers_last(wrestlers(1, 2, 1) + [check(2, 1, 0)], -7, 0)
        self.answers_last(wrestlers(1, 2, 2) + [check(0, 2, 1)], -7, 1)
        self.answers_last(wrestlers(0, 9, 0, 9) + [check(2, 3, 0, 1)], -7, 0)

    def test_have_met(self):
        for pair in ((1, 2), (2, 1)):
            self.answers_last(wrestlers(1, 2, 3) + [met(*pair), check(0, 2, 1)], -7, 1)
            self.answers_last(wrestlers(1, 2, 3) + [met(*pair), check(1, 0, 2)], 1, 1)

    def test_the_first_one(self):
        self.answers_last(wrestlers(1, 2, 3, 3) + [check(1, 0, 3, 2)], -7, 2)
        self.answers_last(wrestlers(1, 2, 2, 3) + [check(3, 2, 1, 0)], -7, 1)
        self.answers_last(wrestlers(1, 2, 2, 1) + [check(3, 2, 1, 0)], -7, 0)
        calls = only_these_may_meet(8, [(0, 7), (1, 6), (2, 5)])
        self.answers_last(calls + [check(7, 6, 5, 4, 3, 2, 1, 0)], -7, 3)
        self.answers_last(calls + [check(7, 6, 5, 3, 4, 2, 1, 0)], 3, 15)
        self.answers_last(wrestlers(*range(7), 6) + [check(1, 0, 3, 2, 5, 4, 7, 6)], -7, 6)

    def test_who_met_before_begins_may_meet(self):
        calls = wrestlers(1, 2) + [met(0, 1), begins(1, 0)] + wrestlers(1, 2)
        self.answers_last(calls + [check(1, 0)], 1, 1)


class CanBe(LineTest):
    def test_the_empty_day(self):
        self.answers_last([check()], 0, 0)
        self.answers_last([begins(100, 100), check()], 0, 0)
        self.answers_last(wrestlers(1, 2) + [begins(1, 1), check()], 0, 0)

    def test_nobody_meets_anybody(self):
        for size in range(9):
            calls = [begins(100, 100)] + [wrestler(number % 3, number) for number in range(size)]
            self.answers_last(calls + [check(*range(size))], 0, 0)

    def test_how_far_it_is_off(self):
        four = [wrestler(1, 3), wrestler(2, 10), wrestler(3, 0), wrestler(4, 15)]
        self.answers_last(four + [check(3, 2, 1, 0)], 2, 4)
        for rank, wins in itertools.product((0, 1, 100), repeat=2):
            counts = [begins(rank, wins)]
            self.answers_last(counts + four + [check(3, 2, 1, 0)], 2, 4 * rank + 22 * wins)
            self.answers_last(counts + four + [check(1, 0, 3, 2)], 2, 2 * rank + 22 * wins)
            self.answers_last(counts + four + [check(2, 3, 0, 1)], 2, 4 * rank + 8 * wins)
            self.answers_last(counts + four + [check(0, 3, 2, 1)], 1, 2 * rank + 5 * wins)
            self.answers_last(counts + four + [check(2, 1, 0, 3)], 1, 2 * rank + 3 * wins)

    def test_the_furthest_off(self):
        calls = [begins(100, 100)] + [wrestler(number, 0 if number < 4 else 15) for number in range(8)]
        self.answers_last(calls + [check(7, 6, 5, 4, 3, 2, 1, 0)], 4, 7600)
        self.answers_last(calls + [check(4, 5, 6, 7, 0, 1, 2, 3)], 4, 7600)

    def test_a_checked_day_has_not_been(self):
        calls = wrestlers(1, 2) + [check(1, 0), check(1, 0), met(0, 1), check(1, 0)]
        self.assertEqual(self.told(calls), [[0], [1], [1, 1], [1, 1], [1], [-7, 0]])

    def test_a_wrestler_more(self):
        calls = wrestlers(1, 2) + [check(1, 0), wrestler(3), check(1, 0), check(1, 0, 2)]
        self.assertEqual(self.told(calls), [[0], [1], [1, 1], [2], [-1], [1, 1]])


class NothingChanges(LineTest):
    def test_all_is_as_it_was(self):
        before = [begins(2, 1), wrestler(1, 3), wrestler(2, 4), wrestler(1, 5), wrestler(3, 0), met(0, 1)]
        after = [best(), why(), check(3, 2, 1, 0), met(1, 2), wrestler(4, 0)]
        wanted = self.told(before + after)[-5:]
        for day in ((), (1, 0), (0, 1, 2, 4), (1, 2, 0, 3), (2, 1, 0, 3), (1, 0, 2, 3), (3, 2, 1, 0)):
            self.assertEqual(self.told(before + [check(*day)] + after)[-5:], wanted)

    def test_numbers_of_a_day_are_not_calls(self):
        calls = [check(4, 5, 0, 1), check(5), check(), wrestler(3), check(1), check(0), wrestler(4)]
        self.assertEqual(self.told(calls), [[-1], [-1], [0, 0], [0], [-1], [0, 0], [1]])


if __name__ == "__main__":
    unittest.main()
