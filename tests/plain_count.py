"""What the tests share: a second, slower count to hold the program against, and ballots to try."""

import copy


def plain_votes(ballots, standing):
    firsts = [[sign for sign in ballot if sign in standing][:1] for ballot in ballots]
    return [(sign, firsts.count([sign])) for sign in sorted(standing)]


def plain_weakest(history):
    """Point 7 as an order: the last round's votes first, then back to the first round, then the number."""
    def rank(sign):
        return [dict(tally)[sign] for tally in history[::-1]] + [-sign]
    return min(dict(history[-1]), key=rank)


def plain_count(count, ballots):
    """The rounds, the leavers and the chosen one."""
    standing = set(range(count))
    rounds, gone = [], []
    while standing:
        rounds.append(plain_votes(ballots, standing))
        together = sum(had for _, had in rounds[-1])
        over = [sign for sign, had in rounds[-1] if had > together - had]
        if len(standing) == 1:
            over = list(standing)
        if over:
            return rounds, gone, over[0]
        gone.append(plain_weakest(rounds))
        standing.remove(gone[-1])
    return rounds, gone, None


class Numbers:
    """Numbers that look mixed and are the same in every run."""

    def __init__(self, seed):
        self.state = seed

    def below(self, bound):
        self.state = (self.state * 6364136223846793005 + 1442695040888963407) % 2 ** 64
        return (self.state >> 33) % bound

    def mixed(self, things):
        things = list(things)
        for place in range(len(things) - 1, 0, -1):
            other = self.below(place + 1)
            things[place], things[other] = things[other], things[place]
        return things

    def ballot(self, count):
        return self.mixed(range(count))[:self.below(count + 1)]

    def ballots(self, count, many):
        return [self.ballot(count) for _ in range(many)]


def elections():
    """Many small elections, a pair of count and ballots each."""
    numbers = Numbers(2)
    for turn in range(1500):
        count = numbers.below(8)
        yield count, numbers.ballots(count, numbers.below(14))


def unchanged(case, function, *arguments):
    """Calls the function, and fails the case if what was handed in is not as it was."""
    before = copy.deepcopy(arguments)
    try:
        return function(*arguments)
    finally:
        case.assertEqual(arguments, before)
