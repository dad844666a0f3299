"""Trips and plans: their stops, ways and order, and whether they are right and whole."""

from pickboard.flaws import flaw_of
from pickboard.jobs import is_tuple_of, is_tuple_upto
from pickboard.places import is_number_within, length_of


def is_pick(job, thing):
    """Whether something is a pair of the numbers of a part and a feeder that there are."""
    if not is_tuple_of(thing, 2):
        return False
    part, feeder = thing
    return is_number_within(part, 0, len(job[3]) - 1) and is_number_within(feeder, 0, len(job[2]) - 1)


def are_picks(job, thing):
    """Whether something may be the picks of a trip."""
    if not is_tuple_upto(thing, job[1]) or len(thing) == 0:
        return False
    if not all([is_pick(job, pick) for pick in thing]):
        return False
    return len({part for part, feeder in thing}) == len(thing)


def are_lays(job, thing, picks):
    """Whether something may be the lays of a trip with these picks."""
    if not is_tuple_of(thing, len(picks)):
        return False
    # Only numbers can be sorted, and True would be taken for 1.
    if not all([is_number_within(part, 0, len(job[3]) - 1) for part in thing]):
        return False
    return sorted(thing) == sorted([part for part, feeder in picks])


def is_trip(job, thing):
    """Whether something is a trip of a job."""
    if not is_tuple_of(thing, 2):
        return False
    picks, lays = thing
    return are_picks(job, picks) and are_lays(job, lays, picks)


def stops_of(job, trip):
    """The list of the places that a trip comes to, the gate first and last."""
    picks, lays = trip
    feeders = [job[2][feeder][1] for part, feeder in picks]
    parts = [job[3][part][1] for part in lays]
    return [job[0]] + feeders + parts + [job[0]]


def trip_way(job, trip):
    """How long the way of a trip is."""
    return length_of(stops_of(job, trip))


def plan_way(job, plan):
    """How long the ways of all trips of a plan are together."""
    return sum([trip_way(job, trip) for trip in plan])


def order_of(plan):
    """The list of all lays of a plan, one behind the other."""
    return [part for picks, lays in plan for part in lays]


def left_in(job, plan):
    """The list of how many parts each feeder has left behind all picks, maybe below nought."""
    taken = [feeder for picks, lays in plan for part, feeder in picks]
    return [many - taken.count(at) for at, (kind, place, many) in enumerate(job[2])]


def is_right(job, thing):
    """Whether something is a right plan of a job."""
    if not isinstance(thing, list) or not all([is_trip(job, trip) for trip in thing]):
        return False
    return flaw_of(job, thing) is None


def is_whole(job, plan):
    """Whether each part of a job stands in a plan."""
    order = order_of(plan)
    return all([part in order for part in range(len(job[3]))])
