"""What several test files ask for: jobs, things of all kinds, brute-force answers."""

from itertools import combinations, permutations, product
from random import Random

GATE = (0, 0)
FEEDERS = (("chip", (10, 0), 3), ("diode", (20, 0), 2), ("chip", (30, 0), 2), ("coil", (40, 0), 1))
PARTS = (("chip", (5, 50)), ("diode", (15, 60)), ("chip", (25, 70)), ("diode", (35, 80)))
AHEADS = ((0, 1), (1, 3), (2, 3))
JOB = (GATE, 2, FEEDERS, PARTS, AHEADS)

BARE_JOB = (GATE, 1, (), (), ())


def deep_thing(depth):
    thing = ()
    for step in range(depth - 1):
        thing = (thing,) if step % 2 else [thing]
    return thing


# Things of every kind that is told as "anything", none of them a place or a job, and "abcde" alone a name.
ODD_THINGS = [
    None, True, False, 0, 1, -1, 5, 10 ** 30, -(10 ** 30),
    "", "A", "1", " ", "a b", "a\n", "\n", "letters\n", "ninechars", "Chip", "chip1", "~",
    [], [1, 2], [[1, 2]], ["chip"], [None], [True, False],
    (), (1,), (1, 2, 3), (1, "a"), ("a", "b"), (None, None), (True, True), ((1, 2), (3, 4)), ((), ()),
    ("chip",), ("chip", (1, 2)), ("chip", (1, 2), 3), ([], [], [], [], []), ((), (), (), (), ()),
    (None, None, None, None, None), ("", "", "", "", ""), (0, 0, 0, 0, 0), "abcde", [0, 0, 0, 0, 0],
    deep_thing(10), [0] * 19999, (0,) * 19999, "a" * 20000,
]


def put_at(thing, at, value):
    """A tuple like thing with another value at a place."""
    return thing[:at] + (value,) + thing[at + 1:]


def job_with(feeders=FEEDERS, parts=PARTS, aheads=AHEADS):
    return (GATE, 2, feeders, parts, aheads)


FREE_JOB = job_with(aheads=())

# Trips that make up a whole right plan of JOB, one behind the other.
ONE = (((2, 2), (0, 0)), (0, 2))
TWO = (((1, 1), (3, 1)), (1, 3))


def board_of(many):
    """So many parts of one kind, each at a place of its own."""
    return tuple(("chip", (at, 7)) for at in range(many))


def shortest_ring(many, aheads):
    """What ring_in should tell, by trying every list of parts there is, the shortest and least first."""
    pairs = set(aheads)
    for size in range(2, many + 1):
        for ring in permutations(range(many), size):
            if all((ring[at - 1], ring[at]) in pairs for at in range(size)):
                return list(ring)
    return None


def closure_of(many, aheads):
    """All pairs (one, other), one ahead of other by one pair or several, by joining pairs till none is new."""
    pairs = set(aheads)
    while True:
        joined = {(a, d) for a, b in pairs for c, d in pairs if b == c} | pairs
        if joined == pairs:
            return pairs
        pairs = joined


def some_job(seed, many, *, feeders=4, kinds=2, heads=3, pairs=2, most=5, side=9):
    """A job of so many parts, the same one for the same seed; a feeder has from 0 to most parts."""
    chance = Random(seed)
    names = ["chip", "diode", "coil", "a"][:kinds]
    spots = [(x, y) for x in range(side) for y in range(side)]
    rows = [(names[at % kinds], chance.choice(spots), chance.randint(0, most)) for at in range(feeders)]
    chance.shuffle(rows)
    parts = [(chance.choice(names), place) for place in chance.sample(spots, many)]
    order = chance.sample(range(many), many)
    aheads = []
    for step in range(pairs if many > 1 else 0):
        one, other = sorted(chance.sample(range(many), 2))
        aheads.append((order[one], order[other]))
    return (chance.choice(spots), heads, tuple(rows), tuple(parts), tuple(aheads))


def stocked(job):
    """The job with feeders that have more than enough of all."""
    return put_at(job, 2, tuple((kind, place, len(job[3])) for kind, place, many in job[2]))


def far(one, other):
    return max(abs(one[0] - other[0]), abs(one[1] - other[1]))


def way_by_hand(job, trip):
    """The way of a trip, reckoned from one stop to the next."""
    way, at = 0, job[0]
    for place in [job[2][feeder][1] for part, feeder in trip[0]] + [job[3][part][1] for part in trip[1]] + [job[0]]:
        way, at = way + far(at, place), place
    return way


def all_trips(job, parts):
    """All trips of just these parts, from feeders of their kinds, in orders that are let."""
    joined = closure_of(len(job[3]), job[4])
    holding = {part: [at for at, row in enumerate(job[2]) if row[0] == job[3][part][0]] for part in parts}
    orders = [lays for lays in permutations(parts)
              if not any((other, one) in joined for one, other in combinations(lays, 2))]
    for order in permutations(parts):
        for chosen in product(*[holding[part] for part in order]):
            for lays in orders:
                yield (tuple(zip(order, chosen)), lays)


def groups_of(many, most):
    """All rising tuples of one to most of so many parts."""
    return [group for size in range(1, most + 1) for group in combinations(range(many), size)]


def all_flaws(job, plan):
    """All flaws of a plan as tuples (trip, place, rank, word), by going through its clauses one by one."""
    joined = closure_of(len(job[3]), job[4])
    flaws = []
    for at, (picks, lays) in enumerate(plan):
        for place, (part, feeder) in enumerate(picks):
            ahead = [pick for row in plan[:at] for pick in row[0]]
            if job[2][feeder][0] != job[3][part][0]:
                flaws.append((at, place, 0, "kind"))
            if part in [pick[0] for pick in ahead]:
                flaws.append((at, place, 1, "twice"))
            if [pick[1] for pick in ahead + list(picks[:place])].count(feeder) >= job[2][feeder][2]:
                flaws.append((at, place, 2, "empty"))
        for place, part in enumerate(lays):
            stand = [one for row in plan[:at] for one in row[1]] + list(lays[:place])
            if any(other == part and one not in stand for one, other in joined):
                flaws.append((at, len(picks) + place, 3, "ahead"))
    return sorted(flaws)


def lone(part, feeder):
    """A trip of one part alone."""
    return (((part, feeder),), (part,))


def some_plan(chance, job):
    """A list of trips of a job, most of them not right together."""
    plan = []
    for step in range(chance.randint(0, 4)):
        parts = chance.sample(range(len(job[3])), chance.randint(1, min(job[1], len(job[3]))))
        feeders = [chance.choice([at for at, row in enumerate(job[2]) if row[0] == job[3][part][0]])
                   if chance.random() < 0.9 else chance.randrange(len(job[2])) for part in parts]
        plan.append((tuple(zip(parts, feeders)), tuple(chance.sample(parts, len(parts)))))
    return plan


def right_plan(chance, job, whole=False):
    """A right plan of a job, of some of its parts or of all that the feeders have parts for."""
    many = len(job[3])
    joined = closure_of(many, job[4])
    left = [row[2] for row in job[2]]
    rank = {part: (sum(1 for one, other in joined if other == part), chance.random()) for part in range(many)}
    order, feeder_of = [], {}
    for part in sorted(rank, key=rank.get):
        ready = [at for at, row in enumerate(job[2]) if row[0] == job[3][part][0] and left[at] > 0]
        fits = all(one in order for one, other in joined if other == part)
        if ready and fits and (whole or chance.random() < 0.85):
            order.append(part)
            feeder_of[part] = chance.choice(ready)
            left[feeder_of[part]] -= 1
    plan = []
    while order:
        size = chance.randint(1, job[1])
        lays, order = order[:size], order[size:]
        plan.append((tuple((part, feeder_of[part]) for part in chance.sample(lays, len(lays))), tuple(lays)))
    return plan


def lists_in(thing):
    """All lists that a thing holds, itself among them."""
    within = [one for part in thing for one in lists_in(part)] if isinstance(thing, (list, tuple)) else []
    return ([thing] if isinstance(thing, list) else []) + within


def otherwise(thing):
    """Things that are like this one but for one step, at each depth."""
    if isinstance(thing, bool) or thing is None:
        return [0, 1, ""]
    if isinstance(thing, int):
        return [thing + 1, thing - 1, str(thing), None] + ([bool(thing)] if thing in (0, 1) else [])
    if isinstance(thing, str):
        return [thing + "x", thing[1:], thing.upper() + "A", None, [thing]]
    kind = thing.__class__
    found = [list(thing) if kind is tuple else tuple(thing), thing + kind([0]), kind([thing])]
    for at in range(len(thing)):
        head, one, tail = thing[:at], thing[at], thing[at + 1:]
        found += [head + tail, head + kind([one, one]) + tail]
        found += [head + kind([other]) + tail for other in otherwise(one)]
        if tail and tail[0] != one:
            found.append(head + kind([tail[0], one]) + tail[1:])
    return found
