"""Prices of parts, which no whole right plan of a job goes below."""

from pickboard.errors import TooMany
from pickboard.places import is_number_within
from pickboard.trips import group_ways

MOST_PARTS = 12


def refuse_many(job):
    """Refuses jobs of too many parts."""
    if len(job[3]) > MOST_PARTS:
        raise TooMany("the job has too many parts for prices")


def together(prices, group):
    """The prices of the parts of a group, together."""
    return sum([prices[part] for part in group])


def shows_prices(job, thing):
    """Whether something is a list of prices for the parts of a job."""
    refuse_many(job)
    if not isinstance(thing, list) or len(thing) != len(job[3]):
        return False
    ways = group_ways(job)
    if not all([is_number_within(price, 0, ways[(part,)]) for part, price in enumerate(thing)]):
        return False
    return all([together(thing, group) <= way for group, way in ways.items()])


def even_price(part, ways):
    """What a part may cost where the parts of each group bear its way in like shares."""
    return min([way // len(group) for group, way in ways.items() if part in group])


def room_for(part, prices, ways):
    """How much more a part may cost, the other prices being as they are."""
    return min([way - together(prices, group) for group, way in ways.items() if part in group])


def prices_for(job):
    """Prices for the parts of a job, none of which could be one more, the others being as they are."""
    refuse_many(job)
    ways = group_ways(job)
    parts = tuple(range(len(job[3])))
    # From nought on the first parts would take most of each way, and all prices together would be low.
    prices = [even_price(part, ways) for part in parts]
    # Where a part has no more room some group has none, and that stays so while others rise: once is enough.
    for part in parts:
        prices[part] += room_for(part, prices, ways)
    return prices


def bound_of(some):
    """All numbers of a list, together."""
    return sum(some)
