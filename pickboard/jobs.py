"""Jobs: the gate, heads, feeders and parts, and which parts must lie ahead of which."""

from pickboard.places import is_name, is_number_within, is_place

MOST_HEADS = 4
MOST_FEEDERS = 20
MOST_IN_FEEDER = 400
MOST_PARTS = 60
MOST_AHEADS = 200


def is_tuple_of(thing, many):
    """Whether something is a tuple of just so many things."""
    return isinstance(thing, tuple) and len(thing) == many


def is_tuple_upto(thing, most):
    """Whether something is a tuple of no more than so many things."""
    return isinstance(thing, tuple) and len(thing) <= most


def is_feeder(thing):
    """Whether something is a tuple (kind, place, many) as a job's feeders are."""
    if not is_tuple_of(thing, 3):
        return False
    kind, place, many = thing
    return is_name(kind) and is_place(place) and is_number_within(many, 0, MOST_IN_FEEDER)


def are_feeders(thing):
    """Whether something may be the feeders of a job."""
    return is_tuple_upto(thing, MOST_FEEDERS) and all([is_feeder(feeder) for feeder in thing])


def is_part(thing, kinds):
    """Whether something is a pair (kind, place), the kind being one of kinds."""
    if not is_tuple_of(thing, 2):
        return False
    kind, place = thing
    return kind in kinds and is_place(place)


def are_parts(thing, feeders):
    """Whether something may be the parts of a job with these feeders."""
    kinds = [feeder[0] for feeder in feeders]
    if not is_tuple_upto(thing, MOST_PARTS) or not all([is_part(part, kinds) for part in thing]):
        return False
    return len({part[1] for part in thing}) == len(thing)


def is_ahead(thing, many):
    """Whether something is a pair of unlike numbers of parts, of which there are many."""
    if not is_tuple_of(thing, 2):
        return False
    one, other = thing
    if not is_number_within(one, 0, many - 1) or not is_number_within(other, 0, many - 1):
        return False
    return one != other


def are_aheads(thing, many):
    """Whether something is a tuple of pairs as a job's aheads are, whether or not they lead round."""
    return is_tuple_upto(thing, MOST_AHEADS) and all([is_ahead(pair, many) for pair in thing])


def is_job(thing):
    """Whether something is a job."""
    if not is_tuple_of(thing, 5):
        return False
    gate, heads, feeders, parts, aheads = thing
    if not is_place(gate) or not is_number_within(heads, 1, MOST_HEADS):
        return False
    if not are_feeders(feeders) or not are_parts(parts, feeders):
        return False
    if not are_aheads(aheads, len(parts)):
        return False
    return ring_in(len(parts), list(aheads)) is None


def turned(pairs):
    """The pairs, each the other way about."""
    return [(other, one) for one, other in pairs]


def next_by(pairs):
    """For each first thing of the pairs the list of what stands behind it in them."""
    rows = {}
    for one, other in pairs:
        rows.setdefault(one, []).append(other)
    return rows


def steps_from(start, rows):
    """For each part that can be come to from start how many steps it takes at least."""
    steps = {start: 0}
    edge = [start]
    while edge:
        reached = []
        for part in edge:
            for other in rows.get(part, []):
                if other not in steps:
                    steps[other] = steps[part] + 1
                    reached.append(other)
        edge = reached
    return steps


def nearest_of(parts, steps):
    """The least part of those with the fewest steps to go, None where none leads there."""
    found = min([(steps[part], part) for part in parts if part in steps], default=None)
    if found is None:
        return None
    return found[1]


def ring_by(first, rows, steps):
    """The least of the shortest rounds that begin with first, None where there is none.

    steps tells for each part how many steps it takes from there to first.
    """
    ring = [first]
    part = nearest_of(rows.get(first, []), steps)
    if part is None:
        return None
    while part != first:
        ring.append(part)
        part = nearest_of(rows[part], steps)
    return ring


def ring_in(many, aheads):
    """The shortest round in the pairs, of several the least list; None where none leads round."""
    onward = next_by(aheads)
    backward = next_by(turned(aheads))
    best = None
    for first in range(many):
        ring = ring_by(first, onward, steps_from(first, backward))
        # Of rounds of one length the first one found is the least: it begins with the least part.
        if ring is not None and (best is None or len(ring) < len(best)):
            best = ring
    return best


def all_from(part, rows):
    """The rising list of all that can be come to from a part, but for the part itself."""
    return sorted([other for other in steps_from(part, rows) if other != part])


def ahead_of(job, part):
    """The rising list of all parts that must lie ahead of a part."""
    return all_from(part, next_by(turned(job[4])))


def behind_of(job, part):
    """The rising list of all parts that a part must lie ahead of."""
    return all_from(part, next_by(job[4]))


def feeders_for(job, kind):
    """The rising list of the numbers of the feeders of a kind."""
    return [at for at, feeder in enumerate(job[2]) if feeder[0] == kind]


def wanted_of(job):
    """The rising list of pairs of a kind and how many parts are of it, one at least."""
    counts = {}
    for part in job[3]:
        counts[part[0]] = counts.get(part[0], 0) + 1
    return sorted(counts.items())


def is_stocked(job):
    """Whether each feeder by itself has as many parts as there are parts of its kind."""
    counts = dict(wanted_of(job))
    return all([many >= counts.get(kind, 0) for kind, place, many in job[2]])
