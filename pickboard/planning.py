"""Whole right plans of jobs of any size."""

from pickboard.errors import Short
from pickboard.jobs import ahead_of, feeders_for, wanted_of
from pickboard.plans import left_in, trip_way


def refuse_short(job):
    """Refuses jobs whose feeders of some kind have too few parts together."""
    for kind, many in wanted_of(job):
        if sum([job[2][feeder][2] for feeder in feeders_for(job, kind)]) < many:
            raise Short(f"the feeders of {kind} have fewer parts than are wanted", kind)


def laying_order(job):
    """The list of all parts, each behind those that must lie ahead of it."""
    # What must lie ahead of a part has fewer ahead of itself than that part has.
    pairs = sorted([(len(ahead_of(job, part)), part) for part in range(len(job[3]))])
    return [part for many, part in pairs]


def lone_trip(part, feeder):
    """The trip that lays one part alone."""
    return (((part, feeder),), (part,))


def lone_trips(job):
    """A whole right plan with a trip for each part, from the best feeder that has one left."""
    left = left_in(job, [])
    plan = []
    for part in laying_order(job):
        ready = [feeder for feeder in feeders_for(job, job[3][part][0]) if left[feeder] > 0]
        way, feeder = min([(trip_way(job, lone_trip(part, feeder)), feeder) for feeder in ready])
        left[feeder] -= 1
        plan.append(lone_trip(part, feeder))
    return plan


def put_together(one, other):
    """Two trips as one, picks and lays one behind the other."""
    return (one[0] + other[0], one[1] + other[1])


def should_join(job, one, other):
    """Whether two trips, put together, are a trip still, and a shorter one."""
    both = put_together(one, other)
    return len(both[0]) <= job[1] and trip_way(job, both) < trip_way(job, one) + trip_way(job, other)


def first_to_join(job, plan):
    """The first trip of a plan that should be put together with the next one, None where none should."""
    for at, (one, other) in enumerate(zip(plan, plan[1:])):
        if should_join(job, one, other):
            return at
    return None


def plan_for(job):
    """A whole right plan, none of whose trips could be put together with the next one to make it shorter."""
    refuse_short(job)
    plan = lone_trips(job)
    at = first_to_join(job, plan)
    while at is not None:
        plan[at:at + 2] = [put_together(plan[at], plan[at + 1])]
        at = first_to_join(job, plan)
    return plan
