"""The shortest plans of small jobs, with a table that shows that none is shorter.

A set is a rising tuple of parts in which with each part all stand that must lie ahead of it. A plan of a set ends
with some trip, and what it lays ahead of that trip is a set again, so least ways come from those of smaller sets.
"""

from pickboard.errors import NotStocked, TooMany
from pickboard.jobs import ahead_of, is_stocked
from pickboard.plans import is_right, is_whole, plan_way
from pickboard.things import is_same
from pickboard.trips import group_ways, groups_upto, shortest_trip

MOST_PARTS = 8


def refuse_unfit(job):
    """Refuses jobs that aren't stocked, then those of too many parts."""
    if not is_stocked(job):
        raise NotStocked("a feeder has fewer parts than there are parts of its kind")
    if len(job[3]) > MOST_PARTS:
        raise TooMany("the job has too many parts for a table of its sets")


def all_parts(job):
    """The set of all parts of a job."""
    return tuple(range(len(job[3])))


def sets_of(job):
    """All sets of a job but the empty one, smaller ones first."""
    parts = all_parts(job)
    aheads = [ahead_of(job, part) for part in parts]
    groups = groups_upto(parts, len(parts))
    found = [group for group in groups if all([other in group for part in group for other in aheads[part]])]
    return sorted(found, key=len)


def without(parts, group):
    """The parts of a tuple that aren't in a group."""
    return tuple([part for part in parts if part not in group])


def best_end(chosen, heads, ways, ends):
    """A pair of the least way of a plan of a set and the parts of its last trip.

    ways tells the least way of each trip, ends such a pair for each smaller set.
    """
    tried = []
    for group in groups_upto(chosen, heads):
        rest = without(chosen, group)
        if rest in ends:
            tried.append((ends[rest][0] + ways[group], group))
    return min(tried)


def best_ends(job):
    """For each set a pair of the least way of a plan of it and the parts of its last trip."""
    ways = group_ways(job)
    ends = {(): (0, ())}
    for chosen in sets_of(job):
        ends[chosen] = best_end(chosen, job[1], ways, ends)
    return ends


def least_table(job):
    """The rising list of pairs of a set and the least way of a right plan of just its parts."""
    refuse_unfit(job)
    return sorted([(chosen, way) for chosen, (way, group) in best_ends(job).items()])


def least_plan(job):
    """A pair of the least way of a whole right plan and such a plan."""
    refuse_unfit(job)
    ends = best_ends(job)
    left = all_parts(job)
    plan = []
    while left:
        group = ends[left][1]
        plan.append(shortest_trip(job, list(group))[1])
        left = without(left, group)
    return (ends[all_parts(job)][0], plan[::-1])


def shows_table(job, thing):
    """Whether something is the table of a job."""
    return is_same(thing, least_table(job))


def shows_least(job, plan, thing):
    """Whether something is the table of a job, and a plan right, whole and of the way that stands there for all."""
    if not shows_table(job, thing) or not is_right(job, plan) or not is_whole(job, plan):
        return False
    return dict(thing)[all_parts(job)] == plan_way(job, plan)
