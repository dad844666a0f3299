"""Feeders matched to slots, at the least sum, with a paper that shows that no matching has a lesser one.

Rows come one by one. Each takes a column, the row that held it goes on to another one, and so on to a column that
none holds, by the shortest such walk: so at each step the rows that are there are matched at the least sum.
"""

from pickboard.jobs import is_tuple_of, wanted_of
from pickboard.places import is_number, is_number_within, length_of


def width_of(costs):
    """How many columns costs have; of no rows none."""
    if not costs:
        return 0
    return len(costs[0])


def settled(costs, holders, walks):
    """The walks to all columns, made shorter as long as a row may better go on from its column to another one.

    holders tells which row holds a column; a walk is a pair of what it costs and the columns that it comes by.
    """
    best = list(walks)
    changing = True
    while changing:
        changing = False
        for column, row in holders.items():
            for other, cost in enumerate(costs[row]):
                total = best[column][0] + cost - costs[row][column]
                if total < best[other][0]:
                    best[other] = (total, best[column][1] + (other,))
                    changing = True
    return best


def holders_with(costs, holders, row):
    """Which row holds a column when one more row comes, at the least sum of them all."""
    walks = settled(costs, holders, [(cost, (column,)) for column, cost in enumerate(costs[row])])
    total, columns = min([walk for column, walk in enumerate(walks) if column not in holders])
    moved = dict(holders)
    comer = row
    for column in columns:
        moved[column] = comer
        comer = holders.get(column)
    return moved


def all_holders(costs):
    """Which row holds a column when all rows are matched at the least sum."""
    holders = {}
    for row in range(len(costs)):
        holders = holders_with(costs, holders, row)
    return holders


def columns_by(holders):
    """The list of each row's column."""
    return [column for row, column in sorted([(row, column) for column, row in holders.items()])]


def sum_at(costs, columns):
    """What stands at each row's column, together."""
    return sum([costs[row][column] for row, column in enumerate(columns)])


def matched_slots(costs):
    """A pair of the least sum of a matching and the list of its columns, one for each row."""
    columns = columns_by(all_holders(costs))
    return (sum_at(costs, columns), columns)


def paper_for(costs):
    """A pair of lists of numbers for rows and columns, which together are the least sum, and show that it is."""
    holders = all_holders(costs)
    # A walk may begin at any column for nothing. None to a column that no row holds is below 0 then, or moving the
    # rows along it would make the sum less: so such columns have 0, and the others bear out their rows' numbers.
    walks = settled(costs, holders, [(0, (column,)) for column in range(width_of(costs))])
    numbers = [total for total, columns in walks]
    rows = [costs[row][column] - numbers[column] for row, column in enumerate(columns_by(holders))]
    return (rows, numbers)


def are_numbers(thing, many):
    """Whether something is a list of just so many numbers."""
    return isinstance(thing, list) and len(thing) == many and all([is_number(number) for number in thing])


def shows_paper(costs, thing):
    """Whether something is a paper for costs, so that no matching has a sum less than its numbers together."""
    if not is_tuple_of(thing, 2):
        return False
    rows, columns = thing
    if not are_numbers(rows, len(costs)) or not are_numbers(columns, width_of(costs)):
        return False
    if any([number > 0 for number in columns]):
        return False
    return all([one + other <= cost for one, row in zip(rows, costs) for other, cost in zip(columns, row)])


def are_columns(costs, thing):
    """Whether something is a list of unlike columns' numbers, one for each row."""
    if not isinstance(thing, list) or len(thing) != len(costs):
        return False
    if not all([is_number_within(column, 0, width_of(costs) - 1) for column in thing]):
        return False
    return len(set(thing)) == len(thing)


def shows_matched(costs, columns, thing):
    """Whether columns are a matching, and something is a paper that shows that none has a lesser sum."""
    if not are_columns(costs, columns) or not shows_paper(costs, thing):
        return False
    rows, numbers = thing
    return sum(rows) + sum(numbers) == sum_at(costs, columns)


def slot_cost(job, kind, slot):
    """The ways from the gate by a slot to each part of a kind and back, together."""
    return sum([length_of([job[0], slot, place, job[0]]) for sort, place in job[3] if sort == kind])


def slot_costs(job, slots):
    """A row for each wanted kind, rising: what it costs to have its feeder at each slot."""
    return [[slot_cost(job, kind, slot) for slot in slots] for kind, many in wanted_of(job)]


def placed_feeders(job, slots):
    """The job with a feeder of each wanted kind, at the slot that the kind is matched to, that has just enough."""
    gate, heads, feeders, parts, aheads = job
    columns = matched_slots(slot_costs(job, slots))[1]
    placed = [(kind, slots[column], many) for (kind, many), column in zip(wanted_of(job), columns)]
    return (gate, heads, tuple(placed), parts, aheads)
