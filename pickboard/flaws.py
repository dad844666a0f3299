"""The first flaw of a plan."""

from pickboard.jobs import ahead_of


def flaw_at_pick(job, pick, picked, taken):
    """The word for what is wrong with a pick, None where nothing is.

    picked holds the parts of the trips ahead, taken the feeders of all picks ahead.
    """
    part, feeder = pick
    kind, place, many = job[2][feeder]
    if kind != job[3][part][0]:
        return "kind"
    if part in picked:
        return "twice"
    if taken.count(feeder) >= many:
        return "empty"
    return None


def flaw_at_lay(job, part, order):
    """The word for what is wrong with a lay, None where nothing is; order holds all lays ahead of it."""
    if all([other in order for other in ahead_of(job, part)]):
        return None
    return "ahead"


def flaw_in_trip(job, trip, order, taken):
    """A pair of a word and a place, the first flaw of a trip, None where it has none.

    order holds all lays of the trips ahead, taken the feeders of all their picks.
    """
    picks, lays = trip
    feeders = [feeder for part, feeder in picks]
    for at, pick in enumerate(picks):
        word = flaw_at_pick(job, pick, order, taken + feeders[:at])
        if word is not None:
            return (word, at)
    for at, part in enumerate(lays):
        word = flaw_at_lay(job, part, order + list(lays[:at]))
        if word is not None:
            return (word, len(picks) + at)
    return None


def flaw_of(job, plan):
    """The first flaw of a list of trips, a tuple (word, trip, place); None where it has none."""
    order = []
    taken = []
    for number, trip in enumerate(plan):
        flaw = flaw_in_trip(job, trip, order, taken)
        if flaw is not None:
            word, place = flaw
            return (word, number, place)
        picks, lays = trip
        taken.extend([feeder for part, feeder in picks])
        order.extend(lays)
    return None
