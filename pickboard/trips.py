"""The shortest trips for some parts.

A trip's way is walked thing by thing: first past a feeder of each kind, then past the parts. Parts of one kind are
all picked at one feeder, for a second one could only make the way longer.
"""

from pickboard.jobs import ahead_of, feeders_for, is_tuple_of
from pickboard.places import is_number_within, way_between
from pickboard.plans import is_trip, trip_way


def kind_of(job, part):
    """The kind of a part."""
    return job[3][part][0]


def farther(walks, goals, aheads):
    """The walks that lead by one thing farther; of those that come to the same, the shortest one.

    A walk's key is a pair of the things left to come to and the place where it ends, its value a pair of its way
    and the numbers come to. goals tells for each thing the pairs of a number and a place that it may be come to
    by, aheads the things that may not be left then.
    """
    found = {}
    for (left, place), (way, numbers) in walks.items():
        for thing in left:
            if any([other in left for other in aheads[thing]]):
                continue
            rest = tuple([other for other in left if other != thing])
            for number, goal in goals[thing]:
                walk = (way + way_between(place, goal), numbers + (number,))
                found[(rest, goal)] = min(walk, found.get((rest, goal), walk))
    return found


def picking_walks(job, kinds):
    """The walks from the gate past a feeder of each of some kinds."""
    goals = {kind: [(feeder, job[2][feeder][1]) for feeder in feeders_for(job, kind)] for kind in kinds}
    aheads = {kind: [] for kind in kinds}
    walks = {(tuple(kinds), job[0]): (0, ())}
    for step in range(len(kinds)):
        walks = farther(walks, goals, aheads)
    return walks


def laying_walks(job, walks, parts):
    """The walks that go on past the places of some parts, each behind those that must lie ahead of it."""
    goals = {part: [(part, job[3][part][1])] for part in parts}
    aheads = {part: ahead_of(job, part) for part in parts}
    onward = {(tuple(parts), place): walk for (left, place), walk in walks.items()}
    for step in range(len(parts)):
        onward = farther(onward, goals, aheads)
    return onward


def picks_at(job, feeders, parts):
    """The picks of some parts from feeders, one of each kind, in the order of the feeders."""
    return tuple([(part, feeder) for feeder in feeders for part in parts if kind_of(job, part) == job[2][feeder][0]])


def shortest_trip(job, parts):
    """A pair of the least way of a trip of just these parts and such a trip, whatever feeders have."""
    kinds = sorted({kind_of(job, part) for part in parts})
    walks = laying_walks(job, picking_walks(job, kinds), parts)
    way, row = min([(far + way_between(place, job[0]), numbers) for (left, place), (far, numbers) in walks.items()])
    return (way, (picks_at(job, row[:len(kinds)], parts), row[len(kinds):]))


def keeps_to(job, parts, trip):
    """Whether a trip is of just these parts, each from a feeder of its kind and behind those ahead of it."""
    picks, lays = trip
    if sorted(lays) != parts:
        return False
    if not all([job[2][feeder][0] == kind_of(job, part) for part, feeder in picks]):
        return False
    return not any([other in ahead_of(job, part) for at, part in enumerate(lays) for other in lays[at:]])


def shows_shortest(job, parts, thing):
    """Whether something is a pair of the least way of a trip of just these parts and such a trip."""
    if not is_tuple_of(thing, 2):
        return False
    way, trip = thing
    if not is_trip(job, trip) or not keeps_to(job, parts, trip):
        return False
    least = shortest_trip(job, parts)[0]
    return is_number_within(way, least, least) and trip_way(job, trip) == least


def alone_ways(job):
    """The list of the least way of each part by itself."""
    return [shortest_trip(job, [part])[0] for part in range(len(job[3]))]


def groups_upto(parts, most):
    """All groups of one to most of some parts, as tuples, the parts in the order in which they come."""
    groups = [()]
    for part in parts:
        groups = groups + [group + (part,) for group in groups if len(group) < most]
    return groups[1:]


def group_ways(job):
    """For each group of one to heads parts of a job, a rising tuple, the least way of a trip of them."""
    groups = groups_upto(list(range(len(job[3]))), job[1])
    return {group: shortest_trip(job, list(group))[0] for group in groups}
