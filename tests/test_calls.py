"""begins, wrestler and met, as a line of calls answers them."""

import unittest

from telling import HUGE, LineTest, begins, check, met, wrestler, wrestlers


class Begins(LineTest):
    def test_answers_0(self):
        self.answers_alone([begins(1, 0)], 0)
        self.answers_alone([begins(0, 0)], 0)

    def test_no_wrestlers_behind_it(self):
        self.answers_alone([wrestler(1), wrestler(2), begins(3, 4), met(0, 1), wrestler(5)], 0, 1, 0, -2, 0)

    def test_nobody_has_met_behind_it(self):
        two = [wrestler(1), wrestler(2)]
        self.answers_alone(two + [met(0, 1), begins(1, 1)] + two + [met(0, 1)], 0, 1, 1, 0, 0, 1, 1)

    def test_there_is_room_for_8_again(self):
        eight = [wrestler(0)] * 8
        self.answers_alone(eight + [begins(1, 1)] + eight + [wrestler(0)], *range(8), 0, *range(8), -5)

    def test_edges_of_each_number(self):
        self.answers_alone([begins(100, 0), begins(0, 100), begins(100, 100)], 0, 0, 0)
        for above in (101, HUGE):
            self.answers_alone([begins(above, 0)], -1)
            self.answers_alone([begins(0, above)], -1)
            self.answers_alone([begins(above, above)], -1)
            self.answers_alone([begins(100, above), begins(above, 100)], -1, -1)

    def test_a_refused_one_leaves_all_as_it_was(self):
        for refused in (begins(101, 0), begins(0, 101), begins(HUGE, HUGE)):
            calls = [wrestler(1), wrestler(2), wrestler(3), met(0, 1), refused, met(1, 0), met(0, 2), wrestler(4)]
            self.answers_alone(calls, 0, 1, 2, 1, -1, -4, 2, 3)


class Wrestler(LineTest):
    def test_numbers_in_order(self):
        self.answers_alone([wrestler(n, n) for n in range(8)], *range(8))

    def test_edge_of_stable(self):
        self.answers_alone([wrestler(0), wrestler(9), wrestler(10), wrestler(HUGE), wrestler(9)], 0, 1, -1, -1, 2)

    def test_edge_of_wins(self):
        calls = [wrestler(0, 0), wrestler(0, 15), wrestler(0, 16), wrestler(0, HUGE), wrestler(0, 15)]
        self.answers_alone(calls, 0, 1, -1, -1, 2)

    def test_both_edges_at_once(self):
        self.answers_alone([wrestler(9, 15), wrestler(10, 16), wrestler(HUGE, HUGE), wrestler(9, 15)], 0, -1, -1, 1)

    def test_the_ninth_is_refused(self):
        self.answers_alone([wrestler(0)] * 10, *range(8), -5, -5)

    def test_out_of_range_is_told_ahead_of_full(self):
        wrong = [wrestler(10), wrestler(0, 16), wrestler(10, 16), wrestler(HUGE), wrestler(0, HUGE)]
        self.answers_alone([wrestler(0)] * 8 + wrong + [wrestler(9, 15)], *range(8), *[-1] * 5, -5)

    def test_one_out_of_range_leaves_all_as_it_was(self):
        for refused in (wrestler(10), wrestler(3, 16), wrestler(HUGE, HUGE)):
            calls = [wrestler(1), wrestler(2), met(0, 1), refused, met(0, 2), wrestler(3), met(1, 0), met(0, 2)]
            self.answers_alone(calls, 0, 1, 1, -1, -2, 2, -4, 2)

    def test_one_too_many_leaves_all_as_it_was(self):
        calls = [wrestler(n) for n in range(8)]
        calls += [met(0, 7), wrestler(9), met(0, 8), met(8, 0), met(7, 0), met(6, 7)]
        self.answers_alone(calls, *range(8), 1, -5, -2, -2, -4, 2)


class Met(LineTest):
    three = [wrestler(1), wrestler(2), wrestler(1)]

    def test_how_many_pairs_have_met(self):
        self.answers_alone(self.three + [met(0, 1), met(2, 1)], 0, 1, 2, 1, 2)

    def test_all_28_pairs(self):
        pairs = [met(high, low) for high in range(8) for low in range(high)]
        self.answers_alone([wrestler(n) for n in range(8)] + pairs, *range(8), *range(1, 29))

    def test_one_is_not_there(self):
        self.answers_alone([met(0, 0), met(0, 1)], -2, -2)
        for absent in (3, 4, 8, HUGE):
            self.answers_alone(self.three + [met(0, absent)], 0, 1, 2, -2)
            self.answers_alone(self.three + [met(absent, 0)], 0, 1, 2, -2)
            self.answers_alone(self.three + [met(absent, 2)], 0, 1, 2, -2)

    def test_not_there_is_told_ahead_of_may_not_meet(self):
        self.answers_alone(self.three + [met(3, 3), met(HUGE, HUGE), met(3, 4)], 0, 1, 2, -2, -2, -2)

    def test_nobody_meets_themselves(self):
        self.answers_alone(self.three + [met(0, 0), met(1, 1), met(2, 2)], 0, 1, 2, -4, -4, -4)

    def test_two_of_one_stable(self):
        self.answers_alone(self.three + [met(0, 2), met(2, 0)], 0, 1, 2, -4, -4)

    def test_stables_0_and_9(self):
        calls = [wrestler(0), wrestler(9), wrestler(0), wrestler(9)]
        self.answers_alone(calls + [met(0, 2), met(1, 3), met(0, 3)], 0, 1, 2, 3, -4, -4, 1)

    def test_wins_do_not_matter(self):
        calls = [wrestler(1, 15), wrestler(2, 15), wrestler(1, 0)]
        self.answers_alone(calls + [met(0, 1), met(0, 2), met(1, 2)], 0, 1, 2, 1, -4, 2)

    def test_two_who_have_met_in_either_order(self):
        self.answers_alone(self.three + [met(0, 1), met(0, 1), met(1, 0)], 0, 1, 2, 1, -4, -4)
        self.answers_alone(self.three + [met(1, 0), met(1, 0), met(0, 1)], 0, 1, 2, 1, -4, -4)

    def test_a_refused_one_leaves_all_as_it_was(self):
        for refused, answer in ((met(0, 3), -2), (met(3, 0), -2), (met(0, 0), -4), (met(0, 2), -4), (met(1, 0), -4)):
            calls = self.three + [met(0, 1), refused, met(2, 1), wrestler(3), met(0, 3), met(3, 0)]
            self.answers_alone(calls, 0, 1, 2, 1, answer, 2, 3, 3, -4)


class Counts(LineTest):
    """How much rank and wins count, and who has won how often: check tells it."""

    two = [wrestler(1, 3), wrestler(2, 15)]

    def test_at_its_beginning_rank_counts_1_and_wins_count_0(self):
        self.answers_last(self.two + [check(1, 0)], 1, 1)

    def test_what_begins_tells(self):
        for rank, wins, off in ((0, 0, 0), (1, 0, 1), (0, 1, 12), (7, 3, 43), (100, 100, 1300)):
            self.answers_last([begins(rank, wins)] + self.two + [check(1, 0)], 1, off)

    def test_the_last_begins_holds(self):
        self.answers_last([begins(7, 3), begins(2, 1)] + self.two + [check(1, 0)], 1, 14)
        self.answers_last([begins(7, 3)] + wrestlers(4, 4) + [begins(2, 1)] + self.two + [check(1, 0)], 1, 14)

    def test_refusals_change_nothing(self):
        refused = (begins(101, 1), begins(1, 101), begins(HUGE, HUGE), wrestler(10, 0), wrestler(0, 16), met(0, 2),
                   met(2, 0), met(0, 0), check(1), check(1, 2), check(1, 1), check(1, 0, 2))
        for call in refused:
            calls = [begins(7, 3)] + self.two + [call, check(1, 0)]
            self.assertLess(self.told(calls)[-2][0], 0)
            self.answers_last(calls, 1, 43)

    def test_a_wrestler_too_many_changes_nothing(self):
        calls = [begins(0, 1)] + [wrestler(number, number) for number in range(8)] + [wrestler(9, 15)]
        self.answers_last(calls + [check(7, 6, 5, 4, 3, 2, 1, 0)], 4, 16)


if __name__ == "__main__":
    unittest.main()
