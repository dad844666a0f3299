"""Jobs and plans as texts, a row for each thing in them."""

from pickboard.errors import BadRow, NoJob
from pickboard.jobs import is_job
from pickboard.places import is_name
from pickboard.plans import is_trip

FIGURES = "0123456789"
MOST_FIGURES = 6
WORDS = ("gate", "feeder", "part", "ahead")
FORMS = {
    "gate": ("number", "number", "number"),
    "feeder": ("kind", "number", "number", "number"),
    "part": ("kind", "number", "number"),
    "ahead": ("number", "number"),
}


def job_text(job):
    """The text of a job."""
    (x, y), heads, feeders, parts, aheads = job
    rows = [f"gate {x} {y} {heads}"]
    rows.extend([f"feeder {kind} {place[0]} {place[1]} {many}" for kind, place, many in feeders])
    rows.extend([f"part {kind} {place[0]} {place[1]}" for kind, place in parts])
    rows.extend([f"ahead {one} {other}" for one, other in aheads])
    return "\n".join(rows)


def number_from(word):
    """The number that a word tells in plain figures, None where it isn't so written."""
    if not 1 <= len(word) <= MOST_FIGURES or not all([sign in FIGURES for sign in word]):
        return None
    if word[0] == "0" and word != "0":
        return None
    return int(word)


def value_from(word, sort):
    """What a word tells, a kind or a number; None where it isn't so written."""
    if sort == "number":
        return number_from(word)
    if is_name(word):
        return word
    return None


def row_from(row):
    """A pair of a row's first word and the list of what the others tell; None where it isn't so written."""
    word, *rest = row.split(" ")
    if word not in FORMS or len(rest) != len(FORMS[word]):
        return None
    values = [value_from(other, sort) for other, sort in zip(rest, FORMS[word])]
    if None in values:
        return None
    return (word, values)


def may_follow(word, last):
    """Whether a row of a word may stand behind one of the word last."""
    return word != "gate" and WORDS.index(word) >= WORDS.index(last)


def rows_from(rows):
    """The list of what all rows of a job tell, each as row_from tells it."""
    read = []
    for at, row in enumerate(rows):
        told = row_from(row)
        if told is None or (read and not may_follow(told[0], read[-1][0])):
            raise BadRow("this row is not written so, or may not stand here", at)
        read.append(told)
    # A gate that is there stands first, as it may follow nothing.
    if not read or read[0][0] != "gate":
        raise BadRow("there is no gate", len(rows))
    return read


def values_of(read, word):
    """The values of all rows of a word."""
    return [values for other, values in read if other == word]


def job_from(rows):
    """The job that a list of rows tells."""
    read = rows_from(rows)
    x, y, heads = read[0][1]
    feeders = [(kind, (across, down), many) for kind, across, down, many in values_of(read, "feeder")]
    parts = [(kind, (across, down)) for kind, across, down in values_of(read, "part")]
    aheads = [(one, other) for one, other in values_of(read, "ahead")]
    job = ((x, y), heads, tuple(feeders), tuple(parts), tuple(aheads))
    if not is_job(job):
        raise NoJob("all rows are written so, but they tell no job")
    return job


def read_job(text):
    """The job that a text tells."""
    return job_from(text.split("\n"))


def trip_text(trip):
    """The row of a trip."""
    picks, lays = trip
    words = [f"{part}:{feeder}" for part, feeder in picks] + ["/"] + [str(part) for part in lays]
    return "trip " + " ".join(words)


def plan_text(plan):
    """The text of a plan."""
    return "\n".join([trip_text(trip) for trip in plan])


def parted(words, sign):
    """The list of the lists of words between the signs."""
    groups = [[]]
    for word in words:
        if word == sign:
            groups.append([])
        else:
            groups[-1].append(word)
    return groups


def pick_from(word):
    """The pick that a word tells, or something that is none."""
    return tuple([number_from(side) for side in word.split(":")])


def trip_from(row):
    """The trip that a row tells, or something that is none."""
    words = row.split(" ")
    groups = parted(words[1:], "/")
    if words[0] != "trip" or len(groups) != 2:
        return None
    picks, lays = groups
    return (tuple([pick_from(word) for word in picks]), tuple([number_from(word) for word in lays]))


def read_plan(job, text):
    """The plan of a job that a text tells."""
    if text == "":
        return []
    plan = [trip_from(row) for row in text.split("\n")]
    for at, trip in enumerate(plan):
        if not is_trip(job, trip):
            raise BadRow("this row is no trip of the job", at)
    return plan
