"""The rounds of a count, the signs that leave, and the sign that is chosen."""

from guildvote.ballots import votes
from guildvote.errors import NoSign, Twice


def refuse_wrong(count, ballots):
    # All ballots are looked through for NoSign first: it goes ahead of Twice on an earlier ballot too.
    # The words leave out the number: Python refuses to write a very long one.
    for ballot in ballots:
        for sign in ballot:
            if sign < 0 or sign >= count:
                raise NoSign("a ballot names a number that no sign has")
    for ballot in ballots:
        if len(set(ballot)) < len(ballot):
            raise Twice("a ballot names a sign twice")


def with_fewest(signs, tally):
    had = dict(tally)
    fewest = min([had[sign] for sign in signs])
    return [sign for sign in signs if had[sign] == fewest]


def weakest(history):
    left = [sign for sign, had in history[-1]]
    for tally in reversed(history):
        left = with_fewest(left, tally)
    return max(left)


def winner(tally):
    if len(tally) == 1:
        return tally[0][0]
    together = sum([had for sign, had in tally])
    for sign, had in tally:
        # Doubled and not halved, so that an odd number of votes needs no rounding.
        if 2 * had > together:
            return sign
    return None


def all_rounds(count, ballots):
    refuse_wrong(count, ballots)
    rounds = []
    standing = list(range(count))
    while len(standing) > 0:
        rounds.append(votes(ballots, standing))
        if winner(rounds[-1]) is not None:
            return rounds
        gone = weakest(rounds)
        standing = [sign for sign in standing if sign != gone]
    return rounds


def leavers(count, ballots):
    rounds = all_rounds(count, ballots)
    return [weakest(rounds[:length]) for length in range(1, len(rounds))]


def chosen(count, ballots):
    rounds = all_rounds(count, ballots)
    if len(rounds) == 0:
        return None
    return winner(rounds[-1])
