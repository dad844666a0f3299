"""Tracks: where on its rail a carriage is, tick by tick."""

from pickboard.places import going_to, is_number, way_between
from pickboard.plans import stops_of


def is_track(thing):
    """Whether something is a list of numbers, one at least, each next one at most one more or less."""
    if not isinstance(thing, list) or len(thing) == 0 or not all([is_number(at) for at in thing]):
        return False
    return all([abs(one - other) <= 1 for one, other in zip(thing, thing[1:])])


def track_by(places, work):
    """The track of a carriage that goes from place to place and stays at each for so many ticks."""
    track = [places[0][0]] * (1 + work)
    for one, other in zip(places, places[1:]):
        for tick in range(way_between(one, other)):
            track.append(going_to(one, other, tick + 1)[0])
        track.extend([other[0]] * work)
    return track


def track_of(job, plan, work):
    """The track of a carriage that runs a plan."""
    stops = [stop for trip in plan for stop in stops_of(job, trip)]
    if not stops:
        stops = [job[0]]
    return track_by(stops, work)
