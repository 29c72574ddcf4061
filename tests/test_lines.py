"""Whole lines of calls, and best and why, against the second telling of the document."""

import itertools
import random
import unittest

from rankbouts.tournament import UnknownCall, answers
from telling import (HUGE, LineTest, Telling, begins, best, check, line, met, mutual_days, only_these_may_meet,
                     told_again, why, wrestler, wrestlers)


def some_tournament(chance, size):
    calls = [begins(*chance.choice(((0, 0), (1, 0), (0, 1), (1, 1), (100, 100), (3, 7), (15, 1))))]
    stables = chance.choice((1, 2, 3, 5, 10))
    calls += [wrestler(chance.randrange(stables), chance.choice((0, 1, 2, 15))) for _ in range(size)]
    pairs = list(itertools.combinations(range(size), 2))
    return calls + [met(*pair) for pair in chance.sample(pairs, chance.randint(0, len(pairs)))]


def some_day(chance, size):
    day = list(chance.choice(mutual_days(size)))
    change = chance.randrange(8)
    if change == 0:
        day = day[:-1]
    elif change == 1:
        day = (day + [0, 1])[:size + chance.randint(1, 2)]
    elif change == 2 and day:
        day[chance.randrange(size)] = chance.choice((size, size + 1, HUGE))
    elif change == 3 and day:
        day[chance.randrange(size)] = chance.randrange(size)
    return day


def some_call(chance, size):
    call = chance.choices((0, 1, 2, 3), (1, 12, 16, 20))[0]
    if call == 0:
        return begins(chance.choice((0, 1, 99, 100, 101, HUGE)), chance.choice((0, 1, 50, 100, 101, HUGE)))
    if call == 1:
        return wrestler(chance.choice((0, 1, 2, 3, 8, 9, 10, HUGE)), chance.choice((0, 1, 7, 14, 15, 16, HUGE)))
    if call == 2:
        return met(chance.choice((*range(9), HUGE)), chance.choice((*range(9), HUGE)))
    return check(*some_day(chance, size))


def some_line(chance, length):
    """Calls of every sort; in a line of 60 four of them are of best and two of why."""
    telling, calls = Telling(), []
    places = chance.sample(range(60), 6)
    for place in range(length):
        call = some_call(chance, len(telling.stables))
        if place in places:
            call = best() if places.index(place) < 4 else why()
        elif call[0] == 0:
            telling.begins(*call[1:])
        elif call[0] == 1:
            telling.wrestler(*call[1:])
        calls.append(call)
    return calls


class SecondTelling(LineTest):
    """The second telling is held against the words in one more way, where that is quick enough."""

    def test_mutual_days(self):
        for size in range(6):
            days = itertools.product(range(size), repeat=size)
            wanted = [day for day in days if all(day[day[one]] == one for one in range(size))]
            self.assertEqual(mutual_days(size), wanted)
        self.assertEqual([len(mutual_days(size)) for size in range(9)], [1, 1, 2, 4, 10, 26, 76, 232, 764])


class BestAndWhy(LineTest):
    def held(self, calls):
        told = self.told(calls + [best(), why()])
        self.assertEqual(told, told_again(calls + [best(), why()]))
        return told[-2], told[-1]

    def test_all_ways_that_up_to_five_may_meet(self):
        for size in range(6):
            pairs = list(itertools.combinations(range(size), 2))
            for chosen in itertools.product((False, True), repeat=len(pairs)):
                self.held(only_these_may_meet(size, itertools.compress(pairs, chosen)))

    def test_many_tournaments(self):
        chance = random.Random(31)
        seen_bouts, seen_short = set(), set()
        for size in range(9):
            for _ in range(60):
                days, sets = self.held(some_tournament(chance, size))
                seen_bouts.add((size, days[0]))
                seen_short.add(sets[0])
                # Some set of wrestlers tells why just as many are left without a bout.
                self.assertEqual(sets[0], size - 2 * days[0])
        self.assertLessEqual({(8, bouts) for bouts in range(5)}, seen_bouts)
        self.assertEqual(seen_short, set(range(9)))

    def test_the_best_day_is_as_good_as_check_tells(self):
        chance = random.Random(32)
        for _ in range(100):
            calls = some_tournament(chance, chance.randrange(9))
            bouts, off, _, *day = self.told(calls + [best()])[-1]
            self.answers_last(calls + [check(*day)], bouts, off)


class WholeLines(LineTest):
    def test_no_begins_at_the_beginning(self):
        self.answers_alone([wrestler(4, 2), wrestler(5, 2), met(1, 0)], 0, 1, 1)
        self.answers_alone([met(0, 1), wrestler(4), met(0, 0)], -2, 0, -4)

    def test_one_call(self):
        for call, told in ((begins(1, 2), [1, 0]), (wrestler(1, 2), [1, 0]), (met(0, 1), [1, -2]),
                           (check(), [2, 0, 0]), (check(0), [1, -1]), (best(), [3, 0, 0, 1]), (why(), [3, 0, 0, 0])):
            self.assertEqual(answers(call), told)

    def test_a_line_number_by_number(self):
        calls = [begins(1, 2), wrestler(1, 3), wrestler(2, 5), wrestler(1, 5), check(1, 0, 2), check(1, 2, 0),
                 check(2, 1, 0), check(1, 0), best(), why(), met(1, 2), met(2, 1), best(), why()]
        self.assertEqual(answers(line(*calls)), [
            1, 0, 1, 0, 1, 1, 1, 2, 2, 1, 5, 2, -6, 0, 2, -7, 0, 1, -1, 6, 1, 1, 1, 0, 2, 1, 3, 1, 0, 1,
            1, 1, 1, -4, 6, 1, 5, 1, 1, 0, 2, 3, 1, 0, 1])

    def test_begins_in_the_middle(self):
        calls = [wrestler(1), wrestler(1), met(0, 1), begins(7, 8), met(0, 1), wrestler(1), wrestler(2), met(0, 1),
                 begins(7, 101), met(0, 1), begins(0, 0), wrestler(10), wrestler(3)]
        self.answers_alone(calls, 0, 1, -4, 0, -2, 0, 1, 1, -1, -4, 0, -1, 0)

    def test_sixty_calls_of_one_sort(self):
        self.answers_alone([begins(1, 2)] * 60, *[0] * 60)
        self.answers_alone([check(*range(10))] * 60, *[-1] * 60)
        calls = wrestlers(*range(8)) + [check(7, 6, 5, 4, 3, 2, 1, 0)] * 52
        self.assertEqual(self.told(calls)[8:], [[4, 16]] * 52)

    def test_many_lines(self):
        chance = random.Random(20)
        seen = set()
        for length in (60,) * 120 + tuple(range(1, 60)):
            calls = some_line(chance, length)
            told = self.told(calls)
            self.assertEqual(told, told_again(calls))
            seen.update((call[0], answer[0]) for call, answer in zip(calls, told))
        wanted = {(0, 0), (0, -1), (1, -1), (1, -5), (1, 7), (2, -2), (2, -4), (2, 1), (2, 5), (3, -1), (3, -6),
                  (3, -7), (3, 0), (3, 1), (3, 2), (4, 0), (4, 2), (4, 3), (5, 0), (5, 1), (5, 2)}
        self.assertEqual(wanted - seen, set())

    def test_sixty_calls_with_four_of_best_and_two_of_why(self):
        chance = random.Random(21)
        for _ in range(20):
            calls = some_tournament(chance, 8)[:50]
            calls += [check(*some_day(chance, 8)) for _ in range(54 - len(calls))]
            calls += [best(), why(), best(), best(), why(), best()]
            self.assertEqual(len(calls), 60)
            self.assertEqual(self.told(calls), told_again(calls))


class WhatIsHandedIn(LineTest):
    calls = line(wrestler(1), begins(2, 2), wrestler(1), wrestler(2), wrestler(2), met(0, 1), met(9, 9),
                 begins(101, 0), check(2, 1, 0), check(1, 2, 0), check(0, 2, 1), check(1), best(), why())

    def test_it_is_not_changed(self):
        class Untouched(list):
            def refuse(self, *ignored):
                raise AssertionError("what was handed in is changed")
            append = extend = insert = pop = remove = clear = sort = reverse = refuse
            __setitem__ = __delitem__ = __iadd__ = __imul__ = refuse

        handed = Untouched(self.calls)
        told = answers(handed)
        self.assertEqual(told, answers(list(self.calls)))
        self.assertEqual(handed, self.calls)
        told.append(5)
        self.assertEqual(handed, self.calls)

    def test_many_lines_are_not_changed(self):
        chance = random.Random(22)
        for _ in range(20):
            calls = line(*some_line(chance, 60))
            before = tuple(calls)
            first = answers(calls)
            self.assertEqual(tuple(calls), before)
            self.assertEqual(answers(calls), first)

    def test_a_second_time_answers_as_the_first(self):
        first = answers(self.calls)
        kept = list(first)
        first.append(9)
        answers(line(begins(9, 9), wrestler(3), wrestler(4), met(0, 1), best(), why()))
        self.assertEqual(answers(self.calls), kept)

    def test_answers_are_whole_numbers_in_a_list(self):
        told = answers(self.calls)
        self.assertIs(type(told), list)
        self.assertEqual({type(number) for number in told}, {int})

    def test_an_unknown_call_is_not_passed_over(self):
        for call in (6, HUGE):
            with self.assertRaises(UnknownCall):
                answers([call, 0, 0])


if __name__ == "__main__":
    unittest.main()
