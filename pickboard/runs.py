"""Runs of plans in which picks fail and are tried again.

What has happened so far is told by the events alone: what feeders have left, how much luck is spent and which parts
were given up.
"""

from pickboard.jobs import ahead_of, feeders_for
from pickboard.places import is_number_within, length_of
from pickboard.things import is_same

TRIED = ("picked", "missed")
GIVEN_UP = ("behind", "none", "failed", "dropped")


def events_of(events, words):
    """The events whose word is one of words."""
    return [event for event in events if event[0] in words]


def parts_of(events, words):
    """The parts of the events whose word is one of words."""
    return [event[1] for event in events_of(events, words)]


def is_lost(job, part, events):
    """Whether one that must lie ahead of a part was given up."""
    given = parts_of(events, GIVEN_UP)
    return any([other in given for other in ahead_of(job, part)])


def next_feeder(job, pick, events):
    """The feeder from which a pick is tried next, None where none of its kind has a part left."""
    part, own = pick
    taken = [event[2] for event in events_of(events, TRIED)]
    ready = [feeder for feeder in feeders_for(job, job[3][part][0]) if taken.count(feeder) < job[2][feeder][2]]
    if own in ready:
        return own
    return min(ready, default=None)


def is_lucky(luck, events):
    """Whether the next try comes out well."""
    spent = len(events_of(events, TRIED))
    return spent >= len(luck) or luck[spent]


def pick_events(job, pick, luck, tries, events):
    """What happens at a pick, behind the events so far."""
    part = pick[0]
    if is_lost(job, part, events):
        return [("behind", part)]
    found = []
    for step in range(tries):
        feeder = next_feeder(job, pick, events + found)
        if feeder is None:
            return found + [("none", part)]
        if is_lucky(luck, events + found):
            return found + [("picked", part, feeder)]
        found.append(("missed", part, feeder))
    return found + [("failed", part)]


def lay_event(job, part, events):
    """What happens at the lay of a part that was picked, behind the events so far."""
    if is_lost(job, part, events):
        return ("dropped", part)
    kind, place = job[3][part]
    return ("laid", part, kind, place)


def trip_events(job, trip, luck, tries, events):
    """What happens in a trip, behind the events so far."""
    picks, lays = trip
    found = []
    for pick in picks:
        found.extend(pick_events(job, pick, luck, tries, events + found))
    picked = parts_of(found, ("picked",))
    for part in lays:
        if part in picked:
            found.append(lay_event(job, part, events + found))
    return found


def way_by(job, events):
    """How far the carriage goes in a trip with these events."""
    feeders = [job[2][event[2]][1] for event in events_of(events, TRIED)]
    places = [event[3] for event in events_of(events, ("laid",))]
    return length_of([job[0]] + feeders + places + [job[0]])


def run_plan(job, plan, luck, tries):
    """What happens when a plan is run: a tuple of all events, the parts laid, those given up, and the way."""
    events = []
    way = 0
    for trip in plan:
        found = trip_events(job, trip, luck, tries, events)
        events.extend(found)
        way += way_by(job, found)
    return (events, sorted(parts_of(events, ("laid",))), sorted(parts_of(events, GIVEN_UP)), way)


def shows_run(job, plan, luck, tries, thing):
    """Whether something is what happens when a plan is run."""
    return is_same(thing, run_plan(job, plan, luck, tries))


def is_laid_right(job, event, laid):
    """Whether a part is laid as the job has it, where those of laid lie there already."""
    part = event[1]
    if not is_number_within(part, 0, len(job[3]) - 1) or part in laid:
        return False
    if not is_same(event[2:], job[3][part]):
        return False
    return all([other in laid for other in ahead_of(job, part)])


def lies_right(job, events):
    """Whether all that the events lay is laid once, as the job has it, behind all that must lie ahead of it."""
    laid = []
    for event in events_of(events, ("laid",)):
        if not is_laid_right(job, event, laid):
            return False
        laid.append(event[1])
    return True
