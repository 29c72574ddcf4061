"""One tournament, and the answers to a line of calls about it."""

BEGINS = 0
WRESTLER = 1
MET = 2

OUT_OF_RANGE = -1
NOT_THERE = -2
MAY_NOT_MEET = -4
FULL = -5

HIGHEST_WEIGHT = 100
HIGHEST_STABLE = 9
MOST_WINS = 15
MOST_WRESTLERS = 8


class UnknownCall(ValueError):
    pass


class Tournament:
    def __init__(self):
        self.restart(1, 0)

    def restart(self, rank, wins):
        self.rank_weight = rank
        self.wins_weight = wins
        self.stables = []
        self.won = []
        self.met_pairs = {}

    def is_there(self, number):
        return number < len(self.stables)

    def may_meet(self, one, other):
        if one == other or self.stables[one] == self.stables[other]:
            return False
        return pair_of(one, other) not in self.met_pairs

    def begins(self, rank, wins):
        if rank > HIGHEST_WEIGHT or wins > HIGHEST_WEIGHT:
            return [OUT_OF_RANGE]
        self.restart(rank, wins)
        return [0]

    def wrestler(self, stable, wins):
        if stable > HIGHEST_STABLE or wins > MOST_WINS:
            return [OUT_OF_RANGE]
        if len(self.stables) == MOST_WRESTLERS:
            return [FULL]
        self.stables.append(stable)
        self.won.append(wins)
        return [len(self.stables) - 1]

    def met(self, one, other):
        if not self.is_there(one) or not self.is_there(other):
            return [NOT_THERE]
        if not self.may_meet(one, other):
            return [MAY_NOT_MEET]
        self.met_pairs[pair_of(one, other)] = True
        return [len(self.met_pairs)]


# Whoever is named first, it is the same pair: the lower number leads, so that it has one key.
def pair_of(one, other):
    return (min(one, other), max(one, other))


def answer_call(tournament, call, numbers):
    if call == BEGINS:
        return tournament.begins(numbers[0], numbers[1])
    if call == WRESTLER:
        return tournament.wrestler(numbers[0], numbers[1])
    if call == MET:
        return tournament.met(numbers[0], numbers[1])
    # Going on would take the numbers of an unknown call for calls of their own.
    raise UnknownCall(f"no call {call}")


def answers(calls):
    tournament = Tournament()
    answered = []
    at = 0
    while at < len(calls):
        numbers = calls[at + 1:at + 3]
        answer = answer_call(tournament, calls[at], numbers)
        answered.append(len(answer))
        answered.extend(answer)
        at = at + 1 + len(numbers)
    return answered
