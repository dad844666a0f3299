"""Names, places, and the ways between places."""

LETTERS = "abcdefghijklmnopqrstuvwxyz"
LONGEST_NAME = 8
FARTHEST = 1000


def is_number(thing):
    """Whether something is a whole number."""
    # Python takes True and False for whole numbers; the document doesn't.
    return isinstance(thing, int) and not isinstance(thing, bool)


def is_number_within(thing, least, most):
    """Whether something is a whole number from least to most."""
    return is_number(thing) and least <= thing <= most


def is_name(thing):
    """Whether something is a text of one to eight letters a to z."""
    if not isinstance(thing, str) or not 1 <= len(thing) <= LONGEST_NAME:
        return False
    return all([sign in LETTERS for sign in thing])


def is_place(thing):
    """Whether something is a pair of numbers from 0 to 1,000."""
    if not isinstance(thing, tuple) or len(thing) != 2:
        return False
    return all([is_number_within(side, 0, FARTHEST) for side in thing])


def way_between(one, other):
    """How far two places are apart, by the longer of the two sides."""
    return max(abs(one[0] - other[0]), abs(one[1] - other[1]))


def length_of(places):
    """The ways from each place of a list to the next, together."""
    return sum([way_between(one, other) for one, other in zip(places, places[1:])])


def nearer_by(start, goal, ticks):
    """Where a number is that comes nearer to goal by one in each tick, till it is there."""
    if start < goal:
        return min(start + ticks, goal)
    return max(start - ticks, goal)


def going_to(one, other, ticks):
    """The place of one who goes from one place to another, behind so many ticks."""
    return (nearer_by(one[0], other[0], ticks), nearer_by(one[1], other[1], ticks))
