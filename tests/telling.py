"""Calls by their names, and a second, plain telling of the document that the tests hold the program against."""

import functools
import itertools
import unittest

from rankbouts.tournament import answers

HUGE = 4294967295


def begins(rank, wins):
    return [0, rank, wins]


def wrestler(stable, wins=0):
    return [1, stable, wins]


def met(one, other):
    return [2, one, other]


def check(*day):
    return [3, len(day), *day]


def best():
    return [4]


def why():
    return [5]


def line(*calls):
    return [number for call in calls for number in call]


def parted(told):
    """The answers to a line, each as a list of its own."""
    parts = []
    while told:
        parts.append(told[1:1 + told[0]])
        told = told[1 + told[0]:]
    return parts


class LineTest(unittest.TestCase):
    def told(self, calls):
        told = answers(line(*calls))
        parts = parted(told)
        self.assertEqual(len(parts), len(calls))
        self.assertEqual(told, line(*[[len(part), *part] for part in parts]))
        return parts

    def answers_alone(self, calls, *numbers):
        """Each call answers one number alone."""
        self.assertEqual(self.told(calls), [[number] for number in numbers])

    def answers_last(self, calls, *numbers):
        """The last call answers these numbers."""
        self.assertEqual(self.told(calls)[-1], list(numbers))


def wrestlers(*stables):
    return [wrestler(stable) for stable in stables]


def only_these_may_meet(size, pairs):
    """As many wrestlers, all of stables of their own, of whom all others have met."""
    wanted = [tuple(sorted(pair)) for pair in pairs]
    others = [pair for pair in itertools.combinations(range(size), 2) if pair not in wanted]
    return wrestlers(*range(size)) + [met(*pair) for pair in others]


@functools.cache
def mutual_days(size):
    """All days on which whoever's met by one meets that one, the earliest first."""
    return [day for day in itertools.permutations(range(size))
            if all(day[other] == one for one, other in enumerate(day))]


class Telling:
    """A tournament by the document's words alone."""

    def __init__(self):
        self.counts, self.stables, self.wins, self.have_met = (1, 0), (), (), frozenset()

    def may(self, one, other):
        return (one != other and self.stables[one] != self.stables[other]
                and frozenset((one, other)) not in self.have_met)

    def bouts(self, day):
        return {frozenset((one, other)) for one, other in enumerate(day) if one != other}

    def off(self, day):
        total = 0
        for one, other in map(sorted, self.bouts(day)):
            wins = sorted((self.wins[one], self.wins[other]))
            total += (other - one) * self.counts[0] + (wins[1] - wins[0]) * self.counts[1]
        return total

    def begins(self, rank, wins):
        if rank > 100 or wins > 100:
            return [-1]
        self.__init__()
        self.counts = (rank, wins)
        return [0]

    def wrestler(self, stable, wins):
        if stable > 9 or wins > 15:
            return [-1]
        if len(self.stables) == 8:
            return [-5]
        self.stables, self.wins = self.stables + (stable,), self.wins + (wins,)
        return [len(self.stables) - 1]

    def met(self, one, other):
        if not {one, other} <= set(range(len(self.stables))):
            return [-2]
        if not self.may(one, other):
            return [-4]
        self.have_met = self.have_met | {frozenset((one, other))}
        return [len(self.have_met)]

    def check(self, size, *day):
        if size != len(self.stables) or not set(day) <= set(range(size)):
            return [-1]
        for one in range(size):
            if day[day[one]] != one:
                return [-6, one]
        for one in range(size):
            if day[one] != one and not self.may(one, day[one]):
                return [-7, one]
        return [len(self.bouts(day)), self.off(day)]

    def best(self):
        can_be = [day for day in mutual_days(len(self.stables)) if all(self.may(*bout) for bout in self.bouts(day))]
        ranked = sorted(can_be, key=lambda day: (-len(self.bouts(day)), self.off(day)))
        most, off = len(self.bouts(ranked[0])), self.off(ranked[0])
        as_good = [day for day in can_be if len(self.bouts(day)) == most and self.off(day) == off]
        return [most, off, len(as_good), *as_good[0]]

    def odd_groups(self, away):
        groups = [{one} for one in range(len(self.stables)) if one not in away]
        for one, other in itertools.combinations(sorted(set().union(*groups)), 2):
            if self.may(one, other):
                joined = set().union(*[group for group in groups if group & {one, other}])
                groups = [group for group in groups if not group & joined] + [joined]
        return len([group for group in groups if len(group) % 2 == 1])

    def why(self):
        told = []
        for size in range(len(self.stables) + 1):
            for away in itertools.combinations(range(len(self.stables)), size):
                odd = self.odd_groups(away)
                told.append((max(odd - size, 0), sum(2 ** one for one in away), odd))
        short = max(told)[0]
        return [short, *min(entry[1:] for entry in told if entry[0] == short)]


def told_again(calls):
    telling = Telling()
    asked = (telling.begins, telling.wrestler, telling.met, telling.check, telling.best, telling.why)
    return [asked[call[0]](*call[1:]) for call in calls]
