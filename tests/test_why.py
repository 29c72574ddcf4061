"""why: by how many the shortest set is short, that set, and how many odd groups it leaves."""

import unittest

from telling import LineTest, begins, best, met, only_these_may_meet, why, wrestler, wrestlers


class TheEmptySet(LineTest):
    def test_no_wrestlers(self):
        self.answers_last([why()], 0, 0, 0)
        self.answers_last(wrestlers(1, 1, 1) + [begins(1, 1), why()], 0, 0, 0)

    def test_one(self):
        self.answers_last([wrestler(4, 4), why()], 1, 0, 1)

    def test_all_of_one_stable(self):
        for size in range(9):
            self.answers_last(wrestlers(*[3] * size) + [why()], size, 0, size)

    def test_all_have_met(self):
        for size in range(9):
            self.answers_last(only_these_may_meet(size, []) + [why()], size, 0, size)

    def test_all_may_meet(self):
        for size in range(9):
            self.answers_last(wrestlers(*range(size)) + [why()], size % 2, 0, size % 2)

    def test_no_set_is_short(self):
        self.answers_last(wrestlers(1, 2, 1, 2) + [why()], 0, 0, 0)
        self.answers_last(only_these_may_meet(8, [(0, 7), (1, 6), (2, 5), (3, 4)]) + [why()], 0, 0, 0)
        self.answers_last(only_these_may_meet(6, [(0, 3), (3, 1), (1, 4), (4, 2), (2, 5)]) + [why()], 0, 0, 0)

    def test_odd_and_even_groups(self):
        two_threes = [(0, 2), (2, 4), (1, 3), (3, 5)]
        self.answers_last(only_these_may_meet(6, two_threes) + [why()], 2, 0, 2)
        self.answers_last(only_these_may_meet(8, two_threes + [(6, 7)]) + [why()], 2, 0, 2)
        self.answers_last(only_these_may_meet(8, two_threes) + [why()], 4, 0, 4)
        self.answers_last(only_these_may_meet(7, [(0, 1), (2, 3), (3, 4), (4, 5), (5, 2)]) + [why()], 1, 0, 1)

    def test_it_is_the_lowest_of_several(self):
        self.answers_last(wrestlers(1, 2, 1) + [why()], 1, 0, 1)
        self.answers_last(only_these_may_meet(5, [(0, 1), (1, 2), (2, 3), (3, 4)]) + [why()], 1, 0, 1)


class AnotherSet(LineTest):
    def test_one_whom_all_would_meet(self):
        for middle in range(4):
            calls = [wrestler(1 if number == middle else 2) for number in range(4)]
            self.answers_last(calls + [why()], 2, (1, 2, 4, 8)[middle], 3)
        self.answers_last(wrestlers(1, 1, 1, 1, 1, 1, 1, 2) + [why()], 6, 128, 7)
        self.answers_last(wrestlers(2, 1, 1, 1, 1, 1, 1, 1) + [why()], 6, 1, 7)

    def test_two_whom_all_would_meet(self):
        self.answers_last(wrestlers(0, 0, 0, 0, 0, 0, 1, 1) + [why()], 4, 192, 6)
        self.answers_last(wrestlers(0, 0, 0, 0, 0, 0, 1, 2) + [why()], 4, 192, 6)
        self.answers_last(wrestlers(1, 0, 0, 1, 0, 0, 0, 0) + [why()], 4, 9, 6)

    def test_three_whom_all_would_meet(self):
        self.answers_last(wrestlers(0, 1, 0, 1, 0, 1, 0, 0) + [why()], 2, 42, 5)

    def test_the_lowest_of_several(self):
        for low, high, number in ((3, 4, 8), (4, 3, 8), (0, 5, 1), (5, 2, 4), (1, 2, 2)):
            left = [one for one in range(6) if one not in (low, high)]
            pairs = [(low, high), (low, left[0]), (low, left[1]), (high, left[2]), (high, left[3])]
            self.answers_last(only_these_may_meet(6, pairs) + [why()], 2, number, 3)

    def test_a_lower_number_of_more_wrestlers(self):
        # 3 alone, which is 8, leaves 5, 7 and a group of five: as short by one wrestler as 1 and 2 by two.
        pairs = [(0, 1), (0, 2), (1, 4), (1, 6), (2, 3), (2, 4), (2, 6), (3, 5), (3, 7)]
        self.answers_last(only_these_may_meet(8, pairs) + [why()], 2, 6, 4)
        # 7 alone is 128, and 1 and 4 together are 18.
        pairs = [(0, 1), (1, 2), (1, 7), (2, 4), (3, 7), (4, 5), (4, 7), (6, 7)]
        self.answers_last(only_these_may_meet(8, pairs) + [why()], 2, 18, 4)

    def test_a_group_of_three_is_left(self):
        pairs = [(0, 1), (0, 2), (0, 3), (3, 4), (4, 5), (5, 3)]
        self.answers_last(only_these_may_meet(6, pairs) + [why()], 2, 1, 3)

    def test_even_groups_do_not_count(self):
        pairs = [(2, 0), (2, 1), (2, 3), (2, 4), (4, 5)]
        self.answers_last(only_these_may_meet(6, pairs) + [why()], 2, 4, 3)


class SomeHaveMet(LineTest):
    def test_four_until_all_have_met(self):
        calls = wrestlers(1, 2, 3, 4)
        for pair, wanted in (
                ((0, 1), (0, 0, 0)), ((2, 0), (0, 0, 0)), ((0, 3), (2, 0, 2)), ((3, 2), (2, 0, 2)),
                ((1, 2), (2, 0, 2)), ((3, 1), (4, 0, 4))):
            calls = calls + [met(*pair)]
            self.answers_last(calls + [why()], *wanted)

    def test_counts_and_wins_do_not_matter(self):
        for counts in (begins(0, 0), begins(100, 100)):
            calls = [counts, wrestler(1, 15), wrestler(1, 0), wrestler(2, 7), wrestler(1, 7), best()]
            self.answers_last(calls + [why()], 2, 4, 3)

    def test_it_changes_nothing(self):
        calls = wrestlers(1, 1, 2, 1) + [why(), why(), met(0, 2), best()]
        wanted = [[0], [1], [2], [3], [2, 4, 3], [2, 4, 3], [1], [1, 1, 2, 0, 1, 3, 2]]
        self.assertEqual(self.told(calls), wanted)


if __name__ == "__main__":
    unittest.main()
