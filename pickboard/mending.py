"""Plans mended where feeders have too few parts."""

from pickboard.jobs import ahead_of, feeders_for


def picks_in(plan):
    """The list of all picks of a plan, one behind the other."""
    return [pick for picks, lays in plan for pick in picks]


def staying_picks(plan, stock):
    """The list of those picks that are among the first ones of their feeder, as many as it has."""
    taken = [0 for many in stock]
    stay = []
    for part, feeder in picks_in(plan):
        if taken[feeder] < stock[feeder]:
            taken[feeder] += 1
            stay.append((part, feeder))
    return stay


def new_feeders(job, plan, stock):
    """For each part of a plan the feeder that it comes from with this stock, None where it is dropped for want."""
    # All picks that stay count from the beginning, so that none moved ahead of them pushes them out.
    feeders = dict(staying_picks(plan, stock))
    for part, feeder in picks_in(plan):
        if part not in feeders:
            taken = list(feeders.values())
            ready = [other for other in feeders_for(job, job[3][part][0]) if taken.count(other) < stock[other]]
            feeders[part] = min(ready, default=None)
    return feeders


def dropped_parts(job, feeders):
    """The rising list of the parts that are dropped for want, and of those that must lie behind one of them."""
    wanting = [part for part, feeder in feeders.items() if feeder is None]
    return sorted([part for part in feeders if any([other in wanting for other in [part] + ahead_of(job, part)])])


def mended_trip(trip, feeders, dropped):
    """A trip without the parts that are dropped, each other one from its new feeder."""
    picks, lays = trip
    kept = [part for part, feeder in picks if part not in dropped]
    return (tuple([(part, feeders[part]) for part in kept]), tuple([part for part in lays if part in kept]))


def mended_plan(job, plan, stock):
    """A tuple of the plan mended for this stock, the parts that come from another feeder now, and those dropped."""
    feeders = new_feeders(job, plan, stock)
    dropped = dropped_parts(job, feeders)
    trips = [mended_trip(trip, feeders, dropped) for trip in plan]
    moved = [part for part, feeder in picks_in(plan) if part not in dropped and feeders[part] != feeder]
    return ([trip for trip in trips if trip[0]], sorted(moved), dropped)


def restocked_job(job, stock):
    """The job with feeders that have as many parts as the stock tells."""
    gate, heads, feeders, parts, aheads = job
    changed = [(kind, place, many) for (kind, place, old), many in zip(feeders, stock)]
    return (gate, heads, tuple(changed), parts, aheads)
