"""best: the most bouts, the least off, how many days are as good, and the earliest of them."""

import unittest

from telling import LineTest, begins, best, check, met, only_these_may_meet, wrestler, wrestlers

IN_ORDER = (1, 0, 3, 2, 5, 4, 7, 6)


class Few(LineTest):
    def test_no_wrestlers(self):
        self.answers_last([best()], 0, 0, 1)
        self.answers_last(wrestlers(1, 2) + [begins(1, 1), best()], 0, 0, 1)

    def test_one(self):
        self.answers_last([wrestler(9, 15), best()], 0, 0, 1, 0)

    def test_two(self):
        self.answers_last(wrestlers(1, 2) + [best()], 1, 1, 1, 1, 0)
        self.answers_last(wrestlers(1, 1) + [best()], 0, 0, 1, 0, 1)
        self.answers_last(wrestlers(1, 2) + [met(1, 0), best()], 0, 0, 1, 0, 1)

    def test_one_of_three_is_left(self):
        self.answers_last(wrestlers(1, 2, 3) + [best()], 1, 1, 2, 0, 2, 1)
        self.answers_last(wrestlers(1, 2, 2) + [best()], 1, 1, 1, 1, 0, 2)
        self.answers_last(wrestlers(1, 1, 1) + [best()], 0, 0, 1, 0, 1, 2)


class Eight(LineTest):
    def test_all_of_different_stables(self):
        self.answers_last(wrestlers(*range(8)) + [best()], 4, 4, 1, *IN_ORDER)

    def test_all_of_one_stable(self):
        self.answers_last(wrestlers(*[5] * 8) + [best()], 0, 0, 1, *range(8))

    def test_all_have_met(self):
        self.answers_last(only_these_may_meet(8, []) + [best()], 0, 0, 1, *range(8))

    def test_neighbours_of_one_stable(self):
        self.answers_last(wrestlers(0, 0, 1, 1, 2, 2, 3, 3) + [best()], 4, 8, 4, 2, 3, 0, 1, 6, 7, 4, 5)

    def test_two_stables(self):
        self.answers_last(wrestlers(0, 0, 0, 0, 1, 1, 1, 1) + [best()], 4, 16, 24, 4, 5, 6, 7, 0, 1, 2, 3)
        self.answers_last(wrestlers(0, 0, 0, 0, 0, 0, 1, 1) + [best()], 2, 4, 2, 0, 1, 2, 3, 6, 7, 4, 5)

    def test_only_one_pair_may_meet(self):
        self.answers_last(only_these_may_meet(8, [(0, 7)]) + [best()], 1, 7, 1, 7, 1, 2, 3, 4, 5, 6, 0)

    def test_the_last_way_left(self):
        calls = only_these_may_meet(8, [(0, 7), (1, 6), (2, 5), (3, 4)])
        self.answers_last(calls + [best()], 4, 16, 1, 7, 6, 5, 4, 3, 2, 1, 0)


class MostBoutsFirst(LineTest):
    def test_ahead_of_the_least_off(self):
        calls = only_these_may_meet(4, [(0, 2), (0, 1), (1, 3)])
        self.answers_last(calls + [best()], 2, 4, 1, 2, 3, 0, 1)

    def test_ahead_of_the_earliest(self):
        calls = [begins(0, 0)] + only_these_may_meet(4, [(0, 3), (2, 3), (1, 2)])
        self.answers_last(calls + [best()], 2, 0, 1, 3, 2, 1, 0)


class LeastOff(LineTest):
    def four(self, rank, wins):
        return [begins(rank, wins), wrestler(1, 0), wrestler(2, 15), wrestler(3, 0), wrestler(4, 15)]

    def test_rank_counts(self):
        self.answers_last(self.four(1, 0) + [best()], 2, 2, 1, 1, 0, 3, 2)
        self.answers_last(self.four(100, 0) + [best()], 2, 200, 1, 1, 0, 3, 2)

    def test_wins_count(self):
        self.answers_last(self.four(0, 1) + [best()], 2, 0, 1, 2, 3, 0, 1)
        self.answers_last(self.four(0, 100) + [best()], 2, 0, 1, 2, 3, 0, 1)

    def test_both_count(self):
        self.answers_last(self.four(100, 100) + [best()], 2, 400, 1, 2, 3, 0, 1)
        self.answers_last(self.four(16, 1) + [best()], 2, 62, 1, 1, 0, 3, 2)
        self.answers_last(self.four(15, 1) + [best()], 2, 60, 2, 1, 0, 3, 2)
        self.answers_last(self.four(14, 1) + [best()], 2, 56, 1, 2, 3, 0, 1)

    def test_at_the_beginning_rank_alone_counts(self):
        self.answers_last(self.four(0, 1)[1:] + [best()], 2, 2, 1, 1, 0, 3, 2)

    def test_least_off_ahead_of_the_earliest(self):
        calls = [begins(0, 1), wrestler(1, 0), wrestler(2, 9), wrestler(3, 5), wrestler(4, 1)]
        self.answers_last(calls + [best()], 2, 5, 1, 3, 2, 1, 0)


class AsGood(LineTest):
    def test_neither_rank_nor_wins_count(self):
        for size, bouts, days, earliest in (
                (2, 1, 1, (1, 0)), (3, 1, 3, (0, 2, 1)), (4, 2, 3, (1, 0, 3, 2)), (5, 2, 15, (0, 2, 1, 4, 3)),
                (6, 3, 15, (1, 0, 3, 2, 5, 4)), (7, 3, 105, (0, 2, 1, 4, 3, 6, 5)), (8, 4, 105, IN_ORDER)):
            calls = [begins(0, 0)] + [wrestler(number, number) for number in range(size)]
            self.answers_last(calls + [best()], bouts, 0, days, *earliest)

    def test_two_stables(self):
        calls = [begins(0, 0)] + wrestlers(0, 1, 0, 1, 0, 1, 0, 1)
        self.answers_last(calls + [best()], 4, 0, 24, *IN_ORDER)
        calls = [begins(0, 0)] + wrestlers(0, 0, 0, 0, 0, 1, 1, 1)
        self.answers_last(calls + [best()], 3, 0, 60, 0, 1, 5, 6, 7, 2, 3, 4)


class SomeHaveMet(LineTest):
    def test_four_until_all_have_met(self):
        calls = wrestlers(1, 2, 3, 4)
        for pair, wanted in (
                ((0, 1), (2, 4, 2, 2, 3, 0, 1)), ((2, 0), (2, 4, 1, 3, 2, 1, 0)), ((0, 3), (1, 1, 2, 0, 1, 3, 2)),
                ((3, 2), (1, 1, 1, 0, 2, 1, 3)), ((1, 2), (1, 2, 1, 0, 3, 2, 1)), ((3, 1), (0, 0, 1, 0, 1, 2, 3))):
            calls = calls + [met(*pair)]
            self.answers_last(calls + [best()], *wanted)

    def test_a_best_day_has_not_been(self):
        calls = wrestlers(1, 2) + [best(), best(), check(1, 0), met(0, 1), best()]
        wanted = [[0], [1], [1, 1, 1, 1, 0], [1, 1, 1, 1, 0], [1, 1], [1], [0, 0, 1, 0, 1]]
        self.assertEqual(self.told(calls), wanted)

    def test_refused_ones_have_not_met(self):
        calls = wrestlers(1, 2, 1) + [met(0, 3), met(0, 2), met(1, 1)]
        self.answers_last(calls + [best()], 1, 1, 2, 0, 2, 1)


if __name__ == "__main__":
    unittest.main()
