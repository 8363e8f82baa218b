"""What one ballot counts for, and the votes of one round. Nothing here refuses."""


def no_votes(standing):
    # A dict keeps the order of its keys: from here on a round is told in rising order by itself.
    tally = {}
    for sign in sorted(standing):
        tally[sign] = 0
    return tally


def first_counted(ballot, tally):
    for sign in ballot:
        if sign in tally:
            return sign
    return None


def first_of(ballot, standing):
    return first_counted(ballot, no_votes(standing))


def votes(ballots, standing):
    # The dict is made once for all ballots: to look through the list for each sign of each ballot is slow.
    tally = no_votes(standing)
    for ballot in ballots:
        sign = first_counted(ballot, tally)
        if sign is not None:
            tally[sign] += 1
    return list(tally.items())
