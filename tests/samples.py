"""What several test files ask for: jobs, things of all kinds, brute-force answers."""

from itertools import permutations

GATE = (0, 0)
FEEDERS = (("chip", (10, 0), 3), ("diode", (20, 0), 2), ("chip", (30, 0), 2), ("coil", (40, 0), 1))
PARTS = (("chip", (5, 50)), ("diode", (15, 60)), ("chip", (25, 70)), ("diode", (35, 80)))
AHEADS = ((0, 1), (1, 3), (2, 3))
JOB = (GATE, 2, FEEDERS, PARTS, AHEADS)

BARE_JOB = (GATE, 1, (), (), ())


def deep_thing(depth):
    thing = ()
    for step in range(depth - 1):
        thing = (thing,) if step % 2 else [thing]
    return thing


# Things of every kind that is told as "anything", none of them a name, a place or a job.
ODD_THINGS = [
    None, True, False, 0, 1, -1, 5, 10 ** 30, -(10 ** 30),
    "", "A", "1", " ", "a b", "a\n", "\n", "letters\n", "ninechars", "Chip", "chip1", "~",
    [], [1, 2], [[1, 2]], ["chip"], [None], [True, False],
    (), (1,), (1, 2, 3), (1, "a"), ("a", "b"), (None, None), (True, True), ((1, 2), (3, 4)), ((), ()),
    ("chip",), ("chip", (1, 2)), ("chip", (1, 2), 3), ([], [], [], [], []), ((), (), (), (), ()),
    (None, None, None, None, None), ("", "", "", "", ""), (0, 0, 0, 0, 0), "abcde", [0, 0, 0, 0, 0],
    deep_thing(10), [0] * 19999, (0,) * 19999, "a" * 20000,
]


def put_at(thing, at, value):
    """A tuple like thing with another value at a place."""
    return thing[:at] + (value,) + thing[at + 1:]


def job_with(feeders=FEEDERS, parts=PARTS, aheads=AHEADS):
    return (GATE, 2, feeders, parts, aheads)


def board_of(many):
    """So many parts of one kind, each at a place of its own."""
    return tuple(("chip", (at, 7)) for at in range(many))


def shortest_ring(many, aheads):
    """What ring_in should tell, by trying every list of parts there is, the shortest and least first."""
    pairs = set(aheads)
    for size in range(2, many + 1):
        for ring in permutations(range(many), size):
            if all((ring[at - 1], ring[at]) in pairs for at in range(size)):
                return list(ring)
    return None


def closure_of(many, aheads):
    """All pairs (one, other), one ahead of other by one pair or several, by joining pairs till none is new."""
    pairs = set(aheads)
    while True:
        joined = {(a, d) for a, b in pairs for c, d in pairs if b == c} | pairs
        if joined == pairs:
            return pairs
        pairs = joined
