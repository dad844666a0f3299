"""Two carriages on one rail that never come too near, or a paper that they must.

A pair (i, j) tells that left is at its number i, right at its number j.
"""

from pickboard.places import is_number_within

MOVES = (("both", 1, 1), ("left", 1, 0), ("right", 0, 1))


def is_too_near(left, right, gap, at):
    """Whether the carriages are too near at a pair."""
    return left[at[0]] + gap > right[at[1]]


def ends_of(left, right):
    """The pair at which both are at their ends."""
    return (len(left) - 1, len(right) - 1)


def meets_at(left, right, gap):
    """The first tick at which they are too near when both go on in each tick; None where they never are."""
    last, end = ends_of(left, right)
    for tick in range(max(last, end) + 1):
        if is_too_near(left, right, gap, (min(tick, last), min(tick, end))):
            return tick
    return None


def moves_at(left, right, gap, at):
    """The list of pairs of a move and the pair it leads to from a pair, where they aren't too near."""
    last, end = ends_of(left, right)
    found = []
    for word, one, other in MOVES:
        goal = (at[0] + one, at[1] + other)
        if goal[0] <= last and goal[1] <= end and not is_too_near(left, right, gap, goal):
            found.append((word, goal))
    return found


def all_reached(left, right, gap):
    """For each pair that moves lead to a last move of as few as can be, and the pair ahead; None for (0, 0)."""
    if is_too_near(left, right, gap, (0, 0)):
        return {}
    reached = {(0, 0): None}
    edge = [(0, 0)]
    while edge:
        found = []
        for at in edge:
            for word, goal in moves_at(left, right, gap, at):
                if goal not in reached:
                    reached[goal] = (word, at)
                    found.append(goal)
        edge = found
    return reached


def moves_together(left, right, gap):
    """The list of as few moves as can be that bring both to their ends, never too near; None where there is none."""
    reached = all_reached(left, right, gap)
    at = ends_of(left, right)
    if at not in reached:
        return None
    moves = []
    while at != (0, 0):
        word, at = reached[at]
        moves.append(word)
    return moves[::-1]


def goal_of(move, pairs):
    """The pair that a move leads to, by pairs of a move and such a pair; None where it isn't among them."""
    for word, goal in pairs:
        if word == move:
            return goal
    return None


def shows_together(left, right, gap, thing):
    """Whether something is a list of moves that bring both to their ends, never too near."""
    if not isinstance(thing, list) or is_too_near(left, right, gap, (0, 0)):
        return False
    at = (0, 0)
    for move in thing:
        at = goal_of(move, moves_at(left, right, gap, at))
        if at is None:
            return False
    return at == ends_of(left, right)


def never_moves(left, right, gap):
    """For each i the rising list of all j to which moves lead; None where they lead to both ends."""
    reached = all_reached(left, right, gap)
    if ends_of(left, right) in reached:
        return None
    return [[j for j in range(len(right)) if (i, j) in reached] for i in range(len(left))]


def is_rising_below(thing, many):
    """Whether something is a rising list of numbers from 0 on, below many."""
    if not isinstance(thing, list) or not all([is_number_within(number, 0, many - 1) for number in thing]):
        return False
    return all([one < other for one, other in zip(thing, thing[1:])])


def shows_never(left, right, gap, thing):
    """Whether something tells pairs, (0, 0) among them, that no move leads out of, both ends not among them."""
    if not isinstance(thing, list) or len(thing) != len(left):
        return False
    if not all([is_rising_below(row, len(right)) for row in thing]):
        return False
    told = {(i, j): True for i, row in enumerate(thing) for j in row}
    if ends_of(left, right) in told:
        return False
    if (0, 0) not in told and not is_too_near(left, right, gap, (0, 0)):
        return False
    return all([goal in told for at in told for word, goal in moves_at(left, right, gap, at)])
