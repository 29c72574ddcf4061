"""One tournament, and the answers to a line of calls about it."""

BEGINS = 0
WRESTLER = 1
MET = 2
CHECK = 3
BEST = 4
WHY = 5

OUT_OF_RANGE = -1
NOT_THERE = -2
MAY_NOT_MEET = -4
FULL = -5
NOT_MET_BACK = -6
BOUT_MAY_NOT_BE = -7

HIGHEST_WEIGHT = 100
HIGHEST_STABLE = 9
MOST_WINS = 15
MOST_WRESTLERS = 8


class UnknownCall(ValueError):
    pass


class Tournament:
    def __init__(self):
        self.restart(1, 0)

    def restart(self, rank, wins):
        self.rank_weight = rank
        self.wins_weight = wins
        self.stables = []
        self.won = []
        self.met_pairs = {}

    def is_there(self, number):
        return number < len(self.stables)

    def may_meet(self, one, other):
        if one == other or self.stables[one] == self.stables[other]:
            return False
        return pair_of(one, other) not in self.met_pairs

    def rivals_of(self, one):
        return [other for other in range(len(self.stables)) if self.may_meet(one, other)]

    def rivals_of_each(self):
        return [self.rivals_of(one) for one in range(len(self.stables))]

    def apart(self, one, other):
        by_rank = abs(one - other) * self.rank_weight
        by_wins = abs(self.won[one] - self.won[other]) * self.wins_weight
        return by_rank + by_wins

    def off(self, day):
        return sum([self.apart(one, day[one]) for one in firsts_of_bouts(day)])

    def begins(self, rank, wins):
        if rank > HIGHEST_WEIGHT or wins > HIGHEST_WEIGHT:
            return [OUT_OF_RANGE]
        self.restart(rank, wins)
        return [0]

    def wrestler(self, stable, wins):
        if stable > HIGHEST_STABLE or wins > MOST_WINS:
            return [OUT_OF_RANGE]
        if len(self.stables) == MOST_WRESTLERS:
            return [FULL]
        self.stables.append(stable)
        self.won.append(wins)
        return [len(self.stables) - 1]

    def met(self, one, other):
        if not self.is_there(one) or not self.is_there(other):
            return [NOT_THERE]
        if not self.may_meet(one, other):
            return [MAY_NOT_MEET]
        self.met_pairs[pair_of(one, other)] = True
        return [len(self.met_pairs)]

    def check(self, day):
        if len(day) != len(self.stables) or not all([self.is_there(other) for other in day]):
            return [OUT_OF_RANGE]
        # Two loops: one who isn't met back is told ahead of a lower one who may not meet.
        for one, other in enumerate(day):
            if day[other] != one:
                return [NOT_MET_BACK, one]
        for one, other in enumerate(day):
            if other != one and not self.may_meet(one, other):
                return [BOUT_MAY_NOT_BE, one]
        return [len(firsts_of_bouts(day)), self.off(day)]

    def best(self):
        days = days_that_can_be(self.rivals_of_each())
        bouts = max([len(firsts_of_bouts(day)) for day in days])
        fullest = [day for day in days if len(firsts_of_bouts(day)) == bouts]
        least = min([self.off(day) for day in fullest])
        as_good = [day for day in fullest if self.off(day) == least]
        # Of lists of one length the least is the one with the lower number where they first differ: the earliest.
        return [bouts, least, len(as_good)] + min(as_good)

    def why(self):
        rivals = self.rivals_of_each()
        most_short = 0
        shortest = 0
        # The sets come from the lowest number up, and only a shorter one takes the place: the lowest stays.
        for away in range(1 << len(rivals)):
            short = odd_groups(rivals, away) - size_of(rivals, away)
            if short > most_short:
                most_short = short
                shortest = away
        return [most_short, shortest, odd_groups(rivals, shortest)]


# Whoever is named first, it is the same pair: the lower number leads, so that it has one key.
def pair_of(one, other):
    return (min(one, other), max(one, other))


# A bout stands twice in a day, once for each of the two: the lower one stands for it.
def firsts_of_bouts(day):
    return [one for one, other in enumerate(day) if one < other]


def with_bout(day, one, other):
    changed = list(day)
    changed[one] = other
    changed[other] = one
    return changed


# Each bout is put to all the days without it that leave both free, so that every day comes once.
def days_that_can_be(rivals):
    days = [list(range(len(rivals)))]
    for one in range(len(rivals)):
        for other in rivals[one]:
            if one < other:
                free = [day for day in days if day[one] == one and day[other] == other]
                days = days + [with_bout(day, one, other) for day in free]
    return days


def is_away(away, one):
    return (away >> one) & 1 == 1


def size_of(rivals, away):
    return len([one for one in range(len(rivals)) if is_away(away, one)])


def odd_groups(rivals, away):
    # Those who are away count as placed, so that no group is gone through by way of them.
    placed = [is_away(away, one) for one in range(len(rivals))]
    odd = 0
    for one in range(len(rivals)):
        if not placed[one]:
            group = group_from(rivals, placed, one)
            for member in group:
                placed[member] = True
            odd = odd + len(group) % 2
    return odd


def group_from(rivals, placed, start):
    group = [start]
    at = 0
    while at < len(group):
        member = group[at]
        for other in rivals[member]:
            if not placed[other] and other not in group:
                group.append(other)
        at = at + 1
    return group


# All the numbers of a call but its first: only check tells how many there are.
def numbers_behind(calls, at):
    if calls[at] == CHECK:
        return calls[at + 1:at + 2 + calls[at + 1]]
    if calls[at] == BEST or calls[at] == WHY:
        return []
    return calls[at + 1:at + 3]


def answer_call(tournament, call, numbers):
    if call == BEGINS:
        return tournament.begins(numbers[0], numbers[1])
    if call == WRESTLER:
        return tournament.wrestler(numbers[0], numbers[1])
    if call == MET:
        return tournament.met(numbers[0], numbers[1])
    if call == CHECK:
        return tournament.check(numbers[1:])
    if call == BEST:
        return tournament.best()
    if call == WHY:
        return tournament.why()
    # Going on would take the numbers of an unknown call for calls of their own.
    raise UnknownCall(f"no call {call}")


def answers(calls):
    tournament = Tournament()
    answered = []
    at = 0
    while at < len(calls):
        numbers = numbers_behind(calls, at)
        answer = answer_call(tournament, calls[at], numbers)
        answered.append(len(answer))
        answered.extend(answer)
        at = at + 1 + len(numbers)
    return answered
