"""begins, wrestler and met, as a line of calls answers them."""

import random
import unittest

from rankbouts.tournament import Tournament, answers

HUGE = 4294967295


def begins(rank, wins):
    return [0, rank, wins]


def wrestler(stable, wins=0):
    return [1, stable, wins]


def met(one, other):
    return [2, one, other]


def line(*calls):
    return [number for call in calls for number in call]


def alone(*numbers):
    """What a line answers whose every call answers one number."""
    return [part for number in numbers for part in (1, number)]


class LineTest(unittest.TestCase):
    def check(self, calls, *numbers):
        self.assertEqual(answers(line(*calls)), alone(*numbers))


class Begins(LineTest):
    def test_answers_0(self):
        self.check([begins(1, 0)], 0)
        self.check([begins(0, 0)], 0)

    def test_no_wrestlers_behind_it(self):
        self.check([wrestler(1), wrestler(2), begins(3, 4), met(0, 1), wrestler(5)], 0, 1, 0, -2, 0)

    def test_nobody_has_met_behind_it(self):
        two = [wrestler(1), wrestler(2)]
        self.check(two + [met(0, 1), begins(1, 1)] + two + [met(0, 1)], 0, 1, 1, 0, 0, 1, 1)

    def test_there_is_room_for_8_again(self):
        eight = [wrestler(0)] * 8
        self.check(eight + [begins(1, 1)] + eight + [wrestler(0)], *range(8), 0, *range(8), -5)

    def test_edges_of_each_number(self):
        self.check([begins(100, 0), begins(0, 100), begins(100, 100)], 0, 0, 0)
        for above in (101, HUGE):
            self.check([begins(above, 0)], -1)
            self.check([begins(0, above)], -1)
            self.check([begins(above, above)], -1)
            self.check([begins(100, above), begins(above, 100)], -1, -1)

    def test_a_refused_one_leaves_all_as_it_was(self):
        for refused in (begins(101, 0), begins(0, 101), begins(HUGE, HUGE)):
            calls = [wrestler(1), wrestler(2), wrestler(3), met(0, 1), refused, met(1, 0), met(0, 2), wrestler(4)]
            self.check(calls, 0, 1, 2, 1, -1, -4, 2, 3)


class Wrestler(LineTest):
    def test_numbers_in_order(self):
        self.check([wrestler(n, n) for n in range(8)], *range(8))

    def test_edge_of_stable(self):
        self.check([wrestler(0), wrestler(9), wrestler(10), wrestler(HUGE), wrestler(9)], 0, 1, -1, -1, 2)

    def test_edge_of_wins(self):
        calls = [wrestler(0, 0), wrestler(0, 15), wrestler(0, 16), wrestler(0, HUGE), wrestler(0, 15)]
        self.check(calls, 0, 1, -1, -1, 2)

    def test_both_edges_at_once(self):
        self.check([wrestler(9, 15), wrestler(10, 16), wrestler(HUGE, HUGE), wrestler(9, 15)], 0, -1, -1, 1)

    def test_the_ninth_is_refused(self):
        self.check([wrestler(0)] * 10, *range(8), -5, -5)

    def test_out_of_range_is_told_ahead_of_full(self):
        wrong = [wrestler(10), wrestler(0, 16), wrestler(10, 16), wrestler(HUGE), wrestler(0, HUGE)]
        self.check([wrestler(0)] * 8 + wrong + [wrestler(9, 15)], *range(8), *[-1] * 5, -5)

    def test_one_out_of_range_leaves_all_as_it_was(self):
        for refused in (wrestler(10), wrestler(3, 16), wrestler(HUGE, HUGE)):
            calls = [wrestler(1), wrestler(2), met(0, 1), refused, met(0, 2), wrestler(3), met(1, 0), met(0, 2)]
            self.check(calls, 0, 1, 1, -1, -2, 2, -4, 2)

    def test_one_too_many_leaves_all_as_it_was(self):
        calls = [wrestler(n) for n in range(8)]
        calls += [met(0, 7), wrestler(9), met(0, 8), met(8, 0), met(7, 0), met(6, 7)]
        self.check(calls, *range(8), 1, -5, -2, -2, -4, 2)


class Met(LineTest):
    three = [wrestler(1), wrestler(2), wrestler(1)]

    def test_how_many_pairs_have_met(self):
        self.check(self.three + [met(0, 1), met(2, 1)], 0, 1, 2, 1, 2)

    def test_all_28_pairs(self):
        pairs = [met(high, low) for high in range(8) for low in range(high)]
        self.check([wrestler(n) for n in range(8)] + pairs, *range(8), *range(1, 29))

    def test_one_is_not_there(self):
        self.check([met(0, 0), met(0, 1)], -2, -2)
        for absent in (3, 4, 8, HUGE):
            self.check(self.three + [met(0, absent)], 0, 1, 2, -2)
            self.check(self.three + [met(absent, 0)], 0, 1, 2, -2)
            self.check(self.three + [met(absent, 2)], 0, 1, 2, -2)

    def test_not_there_is_told_ahead_of_may_not_meet(self):
        self.check(self.three + [met(3, 3), met(HUGE, HUGE), met(3, 4)], 0, 1, 2, -2, -2, -2)

    def test_nobody_meets_themselves(self):
        self.check(self.three + [met(0, 0), met(1, 1), met(2, 2)], 0, 1, 2, -4, -4, -4)

    def test_two_of_one_stable(self):
        self.check(self.three + [met(0, 2), met(2, 0)], 0, 1, 2, -4, -4)

    def test_stables_0_and_9(self):
        calls = [wrestler(0), wrestler(9), wrestler(0), wrestler(9)]
        self.check(calls + [met(0, 2), met(1, 3), met(0, 3)], 0, 1, 2, 3, -4, -4, 1)

    def test_wins_do_not_matter(self):
        calls = [wrestler(1, 15), wrestler(2, 15), wrestler(1, 0)]
        self.check(calls + [met(0, 1), met(0, 2), met(1, 2)], 0, 1, 2, 1, -4, 2)

    def test_two_who_have_met_in_either_order(self):
        self.check(self.three + [met(0, 1), met(0, 1), met(1, 0)], 0, 1, 2, 1, -4, -4)
        self.check(self.three + [met(1, 0), met(1, 0), met(0, 1)], 0, 1, 2, 1, -4, -4)

    def test_a_refused_one_leaves_all_as_it_was(self):
        for refused, answer in ((met(0, 3), -2), (met(3, 0), -2), (met(0, 0), -4), (met(0, 2), -4), (met(1, 0), -4)):
            calls = self.three + [met(0, 1), refused, met(2, 1), wrestler(3), met(0, 3), met(3, 0)]
            self.check(calls, 0, 1, 2, 1, answer, 2, 3, 3, -4)


class Kept(unittest.TestCase):
    """What a tournament keeps though no answer of these calls shows it."""

    def kept(self, tournament):
        return (tournament.rank_weight, tournament.wins_weight, list(tournament.stables), list(tournament.won),
                dict(tournament.met_pairs))

    def test_at_its_beginning(self):
        self.assertEqual(self.kept(Tournament()), (1, 0, [], [], {}))

    def test_what_begins_and_wrestler_tell(self):
        tournament = Tournament()
        tournament.begins(100, 7)
        tournament.wrestler(9, 15)
        tournament.wrestler(0, 3)
        self.assertEqual(self.kept(tournament), (100, 7, [9, 0], [15, 3], {}))

    def test_refusals_change_nothing(self):
        tournament = Tournament()
        tournament.begins(5, 6)
        for number in range(8):
            tournament.wrestler(number // 2, number)
        tournament.met(0, 2)
        before = self.kept(tournament)
        for answer, asked in (
                (tournament.begins, (101, 1)), (tournament.begins, (1, 101)), (tournament.wrestler, (10, 0)),
                (tournament.wrestler, (0, 16)), (tournament.wrestler, (0, 0)), (tournament.met, (0, 8)),
                (tournament.met, (8, 0)), (tournament.met, (0, 1)), (tournament.met, (2, 0))):
            self.assertLess(answer(*asked)[0], 0)
            self.assertEqual(self.kept(tournament), before)


def told_again(calls):
    """Answers by the document's words alone, from the whole history each time."""
    told, stables, pairs = [], [], set()
    for call, first, second in zip(calls[::3], calls[1::3], calls[2::3]):
        number = None
        if call == 0:
            number = -1 if max(first, second) > 100 else 0
            if number == 0:
                stables, pairs = [], set()
        elif call == 1:
            number = -1 if first > 9 or second > 15 else -5 if len(stables) == 8 else len(stables)
            stables = stables + [first] if number >= 0 else stables
        else:
            pair = frozenset((first, second))
            if not pair <= set(range(len(stables))):
                number = -2
            elif len({stables[one] for one in pair}) < 2 or pair in pairs:
                number = -4
            else:
                pairs = pairs | {pair}
                number = len(pairs)
        told += [1, number]
    return told


def some_call(chance):
    call = chance.choices((0, 1, 2), (1, 8, 16))[0]
    if call == 0:
        return begins(chance.choice((0, 1, 99, 100, 101, HUGE)), chance.choice((0, 1, 50, 100, 101, HUGE)))
    if call == 1:
        return wrestler(chance.choice((0, 1, 2, 3, 8, 9, 10, HUGE)), chance.choice((0, 1, 7, 14, 15, 16, HUGE)))
    return met(chance.choice((*range(9), HUGE)), chance.choice((*range(9), HUGE)))


class WholeLines(LineTest):
    def test_no_begins_at_the_beginning(self):
        self.check([wrestler(4, 2), wrestler(5, 2), met(1, 0)], 0, 1, 1)
        self.check([met(0, 1), wrestler(4), met(0, 0)], -2, 0, -4)

    def test_sixty_calls(self):
        self.check([begins(1, 2)] * 60, *[0] * 60)

    def test_begins_in_the_middle(self):
        calls = [wrestler(1), wrestler(1), met(0, 1), begins(7, 8), met(0, 1), wrestler(1), wrestler(2), met(0, 1),
                 begins(7, 101), met(0, 1), begins(0, 0), wrestler(10), wrestler(3)]
        self.check(calls, 0, 1, -4, 0, -2, 0, 1, 1, -1, -4, 0, -1, 0)

    def test_many_lines(self):
        chance = random.Random(20)
        seen = set()
        for _ in range(2000):
            calls = line(*[some_call(chance) for _ in range(chance.randint(1, 60))])
            told = answers(calls)
            self.assertEqual(told, told_again(calls))
            seen.update(zip(calls[::3], told[1::2]))
        wanted = {(0, 0), (0, -1), (1, -1), (1, -5), (1, 7), (2, -2), (2, -4), (2, 1), (2, 5)}
        self.assertLessEqual(wanted, seen)

    def test_answers_are_whole_numbers_in_a_list(self):
        told = answers(line(begins(1, 1), wrestler(1), wrestler(2), met(0, 1), met(0, 1)))
        self.assertIs(type(told), list)
        self.assertEqual({type(number) for number in told}, {int})

    def test_what_is_handed_in_is_not_changed(self):
        class Untouched(list):
            def refuse(self, *ignored):
                raise AssertionError("what was handed in is changed")
            append = extend = insert = pop = remove = clear = sort = reverse = refuse
            __setitem__ = __delitem__ = __iadd__ = __imul__ = refuse

        calls = line(wrestler(1), begins(2, 2), wrestler(1), wrestler(2), met(0, 1), met(9, 9), begins(101, 0))
        handed = Untouched(calls)
        told = answers(handed)
        self.assertEqual(told, alone(0, 0, 0, 1, 1, -2, -1))
        self.assertEqual(handed, calls)
        told.append(5)
        self.assertEqual(handed, calls)

    def test_called_twice_answers_as_if_for_the_first_time(self):
        calls = line(wrestler(1), wrestler(2), met(0, 1))
        first = answers(calls)
        self.assertEqual(first, alone(0, 1, 1))
        first.append(9)
        answers(line(begins(9, 9), wrestler(3)))
        self.assertEqual(answers(calls), alone(0, 1, 1))


if __name__ == "__main__":
    unittest.main()
