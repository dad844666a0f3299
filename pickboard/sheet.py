"""Sheets: the rows of a job, and asks of it that are answered row by row."""

from pickboard.errors import BadRow, NotStocked, Short, TooMany
from pickboard.jobs import ahead_of, behind_of, wanted_of
from pickboard.least import least_plan
from pickboard.places import is_name, is_number_within
from pickboard.planning import plan_for
from pickboard.prices import bound_of, prices_for
from pickboard.runs import run_plan
from pickboard.texts import job_from, number_from, parted, trip_text
from pickboard.tips import fewest_changes
from pickboard.trips import shortest_trip

MOST_TRIES = 5
MOST_LUCK = 400
MOST_TIPS = 6
MOST_NEEDS = 60


def nothing_from(job, words):
    """The empty list of an ask without any words behind its first one, None where there are some."""
    if words:
        return None
    return []


def part_from(job, words):
    """The list of the one part that is asked for, None where it isn't so written."""
    if len(words) != 1:
        return None
    return parts_from(job, words)


def parts_from(job, words):
    """The rising list of the parts that are asked for, one to heads of them, None where it isn't so written."""
    parts = [number_from(word) for word in words]
    if not 1 <= len(parts) <= job[1]:
        return None
    if not all([is_number_within(part, 0, len(job[3]) - 1) for part in parts]):
        return None
    if not all([one < other for one, other in zip(parts, parts[1:])]):
        return None
    return parts


def luck_from(word):
    """The list of luck that a word tells, None where it isn't so written."""
    if word == "-":
        return []
    if not 1 <= len(word) <= MOST_LUCK or not all([sign in "+x" for sign in word]):
        return None
    return [sign == "+" for sign in word]


def run_from(job, words):
    """The list of how many tries there are and of their luck, None where it isn't so written."""
    if len(words) != 2:
        return None
    tries = number_from(words[0])
    luck = luck_from(words[1])
    if luck is None or not is_number_within(tries, 1, MOST_TRIES):
        return None
    return [tries, luck]


def tips_from(job, words):
    """The list of the first tips and of the needs of each trip, None where it isn't so written."""
    first, *needs = parted(words, "/")
    if not 1 <= len(first) <= MOST_TIPS or len(needs) > MOST_NEEDS:
        return None
    if not all([is_name(tip) for tip in first + [tip for need in needs for tip in need]]):
        return None
    if any([len(need) > len(first) for need in needs]):
        return None
    return [first, needs]


def row_of(things):
    """Numbers and words, parted by one blank."""
    return " ".join([str(thing) for thing in things])


def tell_wanted(job, values):
    """The kinds that are wanted, each with its number."""
    return row_of([f"{kind}:{many}" for kind, many in wanted_of(job)])


def tell_ahead(job, values):
    """The parts that must lie ahead of one."""
    return row_of(ahead_of(job, values[0]))


def tell_behind(job, values):
    """The parts that one must lie ahead of."""
    return row_of(behind_of(job, values[0]))


def tell_shortest(job, values):
    """The least way of a trip of some parts."""
    return row_of([shortest_trip(job, values)[0]])


def tell_least(job, values):
    """The least way of a whole right plan."""
    return row_of([least_plan(job)[0]])


def tell_bound(job, values):
    """All prices, together."""
    return row_of([bound_of(prices_for(job))])


def tell_plan(job, values):
    """The trips of a whole right plan."""
    return "; ".join([trip_text(trip) for trip in plan_for(job)])


def tell_run(job, values):
    """The parts laid and those given up in a run of a shortest plan."""
    tries, luck = values
    events, laid, given, way = run_plan(job, least_plan(job)[1], luck, tries)
    return row_of(laid + ["|"] + given)


def tell_tips(job, values):
    """The fewest changes of tips."""
    first, needs = values
    return row_of([fewest_changes(first, needs)])


READERS = {
    "wanted": nothing_from, "ahead": part_from, "behind": part_from, "shortest": parts_from, "least": nothing_from,
    "bound": nothing_from, "plan": nothing_from, "run": run_from, "tips": tips_from,
}
TELLERS = {
    "wanted": tell_wanted, "ahead": tell_ahead, "behind": tell_behind, "shortest": tell_shortest, "least": tell_least,
    "bound": tell_bound, "plan": tell_plan, "run": tell_run, "tips": tell_tips,
}


def ask_from(job, row):
    """A pair of an ask's word and its values, None where it isn't so written."""
    word, *rest = row.split(" ")
    if word not in READERS:
        return None
    reader = READERS[word]
    values = reader(job, rest)
    if values is None:
        return None
    return (word, values)


def asks_from(job, rows, start):
    """The asks of all rows, the first of which has the number start in its text."""
    asks = []
    for at, row in enumerate(rows):
        ask = ask_from(job, row)
        if ask is None:
            raise BadRow("this ask is not written so", start + at)
        asks.append(ask)
    return asks


def answer_to(job, ask):
    """The answer to an ask, also where it is refused."""
    word, values = ask
    teller = TELLERS[word]
    try:
        told = teller(job, values)
    except NotStocked:
        return "refused NotStocked"
    except TooMany:
        return "refused TooMany"
    except Short:
        return "refused Short"
    if told == "":
        return "-"
    return told


def answers_to(text):
    """The list of the answers to all asks of a sheet."""
    rows = text.split("\n")
    if "asks" not in rows:
        raise BadRow("there is no row of asks", len(rows))
    at = rows.index("asks")
    job = job_from(rows[:at])
    rest = rows[at + 1:]
    # Some asks take long to answer, and the same ask is told the same: so each is reckoned once.
    told = {}
    for row, ask in zip(rest, asks_from(job, rest, at + 1)):
        if row not in told:
            told[row] = answer_to(job, ask)
    return [told[row] for row in rest]
