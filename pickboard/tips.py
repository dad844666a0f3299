"""Tips of heads, changed as seldom as can be.

Where tips must go, those go that are needed again last: whatever else would be kept in their stead is needed no
later, and so is no better kept. A second head with the same tip counts as needed where two are.
"""

from pickboard.places import is_name


def next_need(needs, at, tip, many):
    """The first trip behind trip at that needs a tip so many times; where none does, how many trips there are."""
    for later in range(at + 1, len(needs)):
        if needs[later].count(tip) >= many:
            return later
    return len(needs)


def spare_heads(row, needs, at):
    """The heads of a row that trip at doesn't need as they are, those first whose tips are needed again last."""
    spare = []
    for head, tip in enumerate(row):
        many = row[:head + 1].count(tip)
        if many > needs[at].count(tip):
            spare.append((next_need(needs, at, tip, many), head))
    return [head for later, head in sorted(spare, reverse=True)]


def missing_tips(row, need):
    """The tips of a need that no head of a row bears, each as often as it is missing."""
    return [tip for at, tip in enumerate(need) if need[:at + 1].count(tip) > row.count(tip)]


def next_row(row, needs, at):
    """What the heads bear in trip at, where they bore a row ahead of it."""
    changed = list(row)
    for tip, head in zip(missing_tips(row, needs[at]), spare_heads(row, needs, at)):
        changed[head] = tip
    return changed


def bear_tips(first, needs):
    """The list of what each head bears in each trip, such that all needs are met with the fewest changes."""
    rows = []
    row = first
    for at in range(len(needs)):
        row = next_row(row, needs, at)
        rows.append(row)
    return rows


def changes_in(first, rows):
    """How often a head bears another tip than in the row ahead."""
    many = 0
    ahead = first
    for row in rows:
        many += len([tip for old, tip in zip(ahead, row) if old != tip])
        ahead = row
    return many


def fewest_changes(first, needs):
    """How many changes it takes at least to meet all needs."""
    return changes_in(first, bear_tips(first, needs))


def meets_need(row, need, heads):
    """Whether something is a list of a NAME for each head in which each tip stands as often as it is needed."""
    if not isinstance(row, list) or len(row) != heads or not all([is_name(tip) for tip in row]):
        return False
    return all([row.count(tip) >= need.count(tip) for tip in need])


def shows_bear(first, needs, thing):
    """Whether something tells for each trip what each head bears, such that all needs are met."""
    if not isinstance(thing, list) or len(thing) != len(needs):
        return False
    return all([meets_need(row, need, len(first)) for row, need in zip(thing, needs)])
