import copy
import unittest
from random import Random

from pickboard.errors import BadRow, BoardError, NoJob
from pickboard.jobs import is_job
from pickboard.texts import job_text, plan_text, read_job, read_plan
from samples import (
    BARE_JOB, FREE_JOB, GATE, JOB, ONE, TWO, board_of, job_with, lone, right_plan, some_job, some_plan, stocked,
)

TEXT = "\n".join([
    "gate 0 0 2", "feeder chip 10 0 3", "feeder diode 20 0 2", "feeder chip 30 0 2", "feeder coil 40 0 1",
    "part chip 5 50", "part diode 15 60", "part chip 25 70", "part diode 35 80", "ahead 0 1", "ahead 1 3", "ahead 2 3",
])
ROWS = TEXT.split("\n")

GOOD = ["gate 1 2 3", "feeder chip 1 2 3", "part chip 1 2", "ahead 1 2"]


def bad_numbers():
    """Words that aren't numbers in plain figures."""
    return ["", "00", "01", "007", "+1", "-1", "-0", "1.0", "1e1", "x", "a1", "1a", "0x1", "1_0", "1,0", "1000000",
            "0000001", "1234567", "10000000000000000000000", "#", "''", "~", ":", "/", "1:", "1:1", "one"]


def bad_names():
    """Words that aren't kinds."""
    return ["", "lettersix", "Chip", "chiP", "CHIP", "chip1", "1", "0", "chi-p", "chi_p", "chip.", "~", "'a'", "a:b"]


def with_words(row, at, word):
    words = row.split(" ")
    return " ".join(words[:at] + [word] + words[at + 1:])


def bad_rows():
    """Rows of jobs that aren't so written, at each place of them."""
    yield from ["", " ", "  ", "~", "gate", "feeder", "part", "ahead", "asks", "trip 0:0 / 0", "1 2 3", "wanted"]
    for row in GOOD:
        words = row.split(" ")
        yield from [" " + row, row + " ", row + "  ", row.replace(" ", "  ", 1), row.replace(" ", ",")]
        yield from [" ".join(words[:1] + [""] + words[1:]), " ".join(words[:-1] + [""] + words[-1:])]
        yield from [row + " 1", row + " a", row + " -", " ".join(words[:-1]), " ".join(words[:1] + words[2:])]
        yield from [with_words(row, 0, word) for word in ["Gate", "gates", "gat", "feed", "PART", "aheads", "", "0"]]
        yield from [row.upper(), row.title(), "x " + row, "#" + row, row + ";", row + "#", row[1:]]
        for at in range(1, len(words)):
            yield from [with_words(row, at, word) for word in (bad_names() if words[at] == "chip" else bad_numbers())]


class TextCase(unittest.TestCase):
    def refused(self, row, deed, *args):
        """Whether something is refused with BadRow of just this row."""
        with self.assertRaises(BadRow) as caught:
            deed(*args)
        self.assertIs(caught.exception.row.__class__, int, args)
        self.assertEqual(caught.exception.row, row, args)
        self.assertIsInstance(caught.exception, BoardError)


class JobTextTest(TextCase):
    def test_by_hand(self):
        self.assertEqual(job_text(JOB), TEXT)
        self.assertEqual(job_text(BARE_JOB), "gate 0 0 1")
        self.assertEqual(job_text(((1000, 7), 4, (("a", (0, 1000), 400),), (), ())),
                         "gate 1000 7 4\nfeeder a 0 1000 400")

    def test_without_feeders_parts_or_pairs(self):
        self.assertEqual(job_text(FREE_JOB), "\n".join(ROWS[:9]))
        self.assertEqual(job_text(job_with(parts=(), aheads=())), "\n".join(ROWS[:5]))
        self.assertEqual(job_text((GATE, 2, (), (), ())), ROWS[0])

    def test_pairs_that_come_several_times(self):
        self.assertEqual(job_text(job_with(aheads=((2, 1), (0, 1), (2, 1)))),
                         "\n".join(ROWS[:9] + ["ahead 2 1", "ahead 0 1", "ahead 2 1"]))

    def test_the_job_stays(self):
        job = copy.deepcopy(JOB)
        job_text(job)
        self.assertEqual(job, JOB)


class ReadJobTest(TextCase):
    def test_each_job_is_read_back_as_it_was(self):
        jobs = [JOB, BARE_JOB, FREE_JOB, job_with(parts=(), aheads=()), job_with(aheads=((2, 1), (0, 1), (2, 1)))]
        jobs += [some_job(seed, seed % 12, feeders=seed % 5 + 4, heads=1 + seed % 4, pairs=seed % 9, side=60, kinds=3)
                 for seed in range(60)]
        for job in jobs:
            self.assertEqual(read_job(job_text(job)), job)
            self.assertIs(is_job(read_job(job_text(job))), True)

    def test_the_greatest_job(self):
        feeders = tuple(("letterse", (1000, at), 400) for at in range(20))
        parts = tuple(("letterse", (1000, at)) for at in range(60))
        aheads = tuple((at % 30, 30 + at % 29) for at in range(200))
        job = ((1000, 1000), 4, feeders, parts, aheads)
        self.assertEqual(len(job_text(job).split("\n")), 281)
        self.assertEqual(read_job(job_text(job)), job)

    def test_by_hand(self):
        self.assertEqual(read_job(TEXT), JOB)
        self.assertEqual(read_job("gate 0 0 1"), BARE_JOB)
        self.assertEqual(read_job("gate 12 345 4\nfeeder abcdefgh 1000 0 400"),
                         ((12, 345), 4, (("abcdefgh", (1000, 0), 400),), (), ()))

    def test_rows_that_are_so_written(self):
        # Only to see that the bad rows below are bad by their one change.
        self.assertEqual(read_job("\n".join(GOOD[:3] + ["part chip 1 3", "part chip 1 4"] + GOOD[3:])),
                         ((1, 2), 3, (("chip", (1, 2), 3),), tuple(("chip", (1, y)) for y in (2, 3, 4)), ((1, 2),)))

    def test_each_way_in_which_a_row_is_not_so_written(self):
        for row in bad_rows():
            self.refused(0, read_job, row)
            self.refused(0, read_job, row + "\n" + TEXT)
            self.refused(1, read_job, "gate 0 0 1\n" + row)
            self.refused(12, read_job, TEXT + "\n" + row)
            self.refused(7, read_job, "\n".join(ROWS[:7] + [row] + ROWS[7:]))

    def test_every_sign_as_a_number_and_as_a_kind(self):
        for sign in map(chr, range(32, 127)):
            if sign in "0123456789":
                self.assertEqual(read_job(f"gate {sign} 0 1"), ((int(sign), 0), 1, (), (), ()))
                self.refused(1, read_job, f"gate 0 0 1\nfeeder {sign} 0 0 1")
            else:
                self.refused(0, read_job, f"gate {sign} 0 1")
                self.refused(0, read_job, f"gate 1{sign} 0 1")
            if sign in "abcdefghijklmnopqrstuvwxyz":
                self.assertEqual(read_job(f"gate 0 0 1\nfeeder {sign} 0 0 1")[2], ((sign, GATE, 1),))
            else:
                self.refused(1, read_job, f"gate 0 0 1\nfeeder a{sign} 0 0 1")

    def test_of_several_rows_the_first_one(self):
        for row in list(bad_rows())[::7]:
            self.refused(3, read_job, "\n".join(ROWS[:3] + [row] + ROWS[3:8] + [row] + ROWS[8:]))
            # Behind it comes a second gate, a row behind one of a later word, no job.
            self.refused(3, read_job, "\n".join(ROWS[:3] + [row] + ["gate 0 0 2"]))
            self.refused(1, read_job, "\n".join(["gate 0 0 2", "gate 0 0 2", row]))
            self.refused(2, read_job, "\n".join(["gate 0 0 2", "part chip 1 2", "feeder chip 1 2 3", row]))
            self.refused(2, read_job, "\n".join(["gate 9999 0 2", "feeder chip 1 2 999", row]))

    def test_empty_rows(self):
        self.refused(0, read_job, "")
        self.refused(0, read_job, "\n")
        self.refused(0, read_job, "\n" + TEXT)
        self.refused(12, read_job, TEXT + "\n")
        self.refused(12, read_job, TEXT + "\n\n")
        self.refused(5, read_job, "\n".join(ROWS[:5] + [""] + ROWS[5:]))

    def test_a_row_behind_one_of_a_later_word(self):
        for later in range(1, 4):
            for earlier in range(later):
                self.refused(2, read_job, "\n".join(["gate 0 0 1", GOOD[later], GOOD[earlier]]))
                self.refused(1, read_job, "\n".join([GOOD[later], GOOD[earlier]]))
                self.refused(3, read_job, "\n".join(["gate 0 0 1"] + [GOOD[later]] * 2 + [GOOD[earlier], GOOD[later]]))
        self.refused(12, read_job, TEXT + "\n" + ROWS[5])
        self.refused(12, read_job, TEXT + "\n" + ROWS[1])

    def test_a_second_gate(self):
        self.refused(1, read_job, "gate 0 0 1\ngate 0 0 1")
        self.refused(1, read_job, "gate 0 0 1\ngate 0 0 1\ngate 0 0 1")
        self.refused(2, read_job, "gate 0 0 1\nfeeder chip 1 2 3\ngate 0 0 1")
        self.refused(12, read_job, TEXT + "\ngate 0 0 2")
        self.refused(1, read_job, "gate 0 0 2\n" + TEXT)

    def test_no_gate(self):
        self.refused(1, read_job, "feeder chip 1 2 3")
        self.refused(1, read_job, "ahead 0 1")
        self.refused(2, read_job, "feeder chip 1 2 3\npart chip 1 2")
        self.refused(11, read_job, "\n".join(ROWS[1:]))
        # A row that isn't so written is told ahead of that, a gate behind other rows, too.
        self.refused(1, read_job, "feeder chip 1 2 3\npart chip 1 2 3")
        self.refused(1, read_job, "feeder chip 1 2 3\ngate 0 0 1")
        self.refused(11, read_job, "\n".join(ROWS[1:] + ROWS[:1]))

    def test_no_job(self):
        texts = [
            "gate 1001 0 1", "gate 0 1001 1", "gate 0 0 0", "gate 0 0 5", "gate 999999 999999 999999",
            "gate 0 0 1\nfeeder chip 1001 0 1", "gate 0 0 1\nfeeder chip 0 1001 1", "gate 0 0 1\nfeeder chip 0 0 401",
            "gate 0 0 1\nfeeder chip 0 0 100000", "gate 0 0 1\npart chip 0 0", "gate 0 0 1\nahead 0 1",
            "gate 0 0 1\nfeeder chip 0 0 1\npart coil 0 0", "gate 0 0 1\nfeeder chip 0 0 1\npart chip 0 1001",
            "gate 0 0 1\nfeeder chip 0 0 1\npart chip 5 5\npart chip 5 5",
            TEXT + "\nahead 0 0", TEXT + "\nahead 0 4", TEXT + "\nahead 999999 0", TEXT + "\nahead 3 0",
            TEXT + "\nahead 0 1" * 198,
            "\n".join(["gate 0 0 1"] + ["feeder chip 0 0 1"] * 21),
            job_text((GATE, 1, (("chip", GATE, 0),), board_of(61), ())),
        ]
        for text in texts:
            with self.assertRaises(NoJob, msg=text[-60:]):
                read_job(text)
        for text in ["gate 1000 1000 4", "gate 0 0 1\nfeeder chip 1000 1000 400", TEXT + "\nahead 0 1" * 197,
                     "\n".join(["gate 0 0 1"] + ["feeder chip 0 0 1"] * 20)]:
            self.assertIs(is_job(read_job(text)), True)

    def test_four_hundred_rows(self):
        self.refused(399, read_job, "\n".join(["gate 0 0 1"] + ["feeder chip 0 0 1"] * 398 + ["x"]))
        with self.assertRaises(NoJob):
            read_job("\n".join(["gate 0 0 1"] + ["feeder chip 0 0 1"] * 399))
        self.refused(0, read_job, "a" * 20000)
        self.refused(0, read_job, "gate 0 0 " + "1" * 19991)


class PlanTextTest(TextCase):
    def test_by_hand(self):
        self.assertEqual(plan_text([ONE, TWO]), "trip 2:2 0:0 / 0 2\ntrip 1:1 3:1 / 1 3")
        self.assertEqual(plan_text([lone(59, 19)]), "trip 59:19 / 59")
        self.assertEqual(plan_text([(((3, 0), (1, 2), (10, 11), (0, 0)), (10, 0, 3, 1))]),
                         "trip 3:0 1:2 10:11 0:0 / 10 0 3 1")

    def test_no_trips(self):
        self.assertEqual(plan_text([]), "")

    def test_the_plan_stays(self):
        plan = [ONE, TWO]
        plan_text(plan)
        self.assertEqual(plan, [ONE, TWO])


class ReadPlanTest(TextCase):
    def test_each_plan_is_read_back(self):
        for seed in range(80):
            chance = Random(seed)
            job = some_job(seed, 1 + seed % 12, heads=1 + seed % 4, feeders=3 + seed % 12)
            # Plans that aren't right are read back, too.
            for plan in [right_plan(chance, job), some_plan(chance, job)]:
                told = read_plan(job, plan_text(plan))
                self.assertIsInstance(told, list)
                self.assertEqual(told, plan)

    def test_sixty_parts(self):
        job = stocked(some_job(1, 60, feeders=20, kinds=4, heads=1, side=30))
        plan = right_plan(Random(1), job, whole=True)
        self.assertEqual(read_plan(job, plan_text(plan)), plan)

    def test_the_empty_text(self):
        self.assertEqual(read_plan(JOB, ""), [])
        self.assertEqual(read_plan(BARE_JOB, ""), [])
        self.assertIsNot(read_plan(JOB, ""), read_plan(JOB, ""))

    def test_by_hand(self):
        self.assertEqual(read_plan(JOB, "trip 2:2 0:0 / 0 2\ntrip 1:1 3:1 / 1 3"), [ONE, TWO])

    def bad_trips(self):
        """Rows of plans that aren't so written, at each place of them."""
        good = "trip 2:2 0:0 / 0 2"
        yield from ["", " ", "trip", "trip ", "trip /", "trip / ", "/", "0:0 / 0", "gate 0 0 1", "trip 0:0"]
        yield from ["trip / 0", "trip 0:0 / ", "trip  / 0", "trip 0 / 0", "trip 0:0/0", "trip 0:0 /0", "trip 0:0/ 0"]
        yield from ["trip 0:0 /", " " + good, good + " ", good.replace(" ", "  ", 1), good.replace(" /", "  /")]
        yield from [good.replace("/ ", "/  "), good.replace("/", "|"), good.replace("/", "/ /"), good.replace("/", "")]
        yield from [good + " /", good + ";"]
        yield from [good.replace("trip", word) for word in ["Trip", "TRIP", "trips", "tri", "", "plan", "0"]]
        yield from [good.replace(":", sign) for sign in ["", " : ", ": ", " :", "::", ";", "-", "/", "."]]
        yield from ["trip 2:2 0:0:0 / 0 2", "trip 2:2 0: / 0 2", "trip 2:2 :0 / 0 2", "trip 2:2 : / 0 2"]
        for word in bad_numbers():
            yield from [f"trip {word}:2 0:0 / 0 2", f"trip 2:{word} 0:0 / 0 2", f"trip 2:2 0:{word} / 0 2"]
            if word not in ["", "/"]:
                yield from [f"trip 2:2 0:0 / {word} 2", f"trip 2:2 0:0 / 0 {word}", f"trip 2:2 0:0 / 0 2 {word}"]

    def test_each_way_in_which_a_row_is_not_so_written(self):
        for row in self.bad_trips():
            if row:
                self.refused(0, read_plan, JOB, row)
            self.refused(0, read_plan, JOB, row + "\ntrip 0:0 / 0")
            self.refused(1, read_plan, JOB, "trip 0:0 / 0\n" + row)
            self.refused(1, read_plan, JOB, "trip 0:0 / 0\n" + row + "\ntrip 1:1 / 1")

    def test_no_trip_of_the_job(self):
        for row in ["trip 4:0 / 4", "trip 0:4 / 0", "trip 0:0 / 1", "trip 0:0 1:1 / 0", "trip 0:0 / 0 1",
                    "trip 0:0 1:1 2:2 / 0 1 2", "trip 0:0 0:0 / 0 0", "trip 0:0 1:1 / 0 0", "trip 999999:0 / 999999"]:
            self.refused(0, read_plan, JOB, row)
            self.refused(2, read_plan, JOB, "trip 1:1 / 1\ntrip 3:1 / 3\n" + row)
        self.refused(0, read_plan, BARE_JOB, "trip 0:0 / 0")

    def test_a_trip_that_is_not_right_is_a_trip_still(self):
        self.assertEqual(read_plan(JOB, "trip 3:3 / 3\ntrip 3:0 / 3"), [lone(3, 3), lone(3, 0)])

    def test_of_several_rows_the_first_one(self):
        self.refused(1, read_plan, JOB, "trip 0:0 / 0\ntrip 9:0 / 9\nx\ntrip 9:9 / 9")
        self.refused(1, read_plan, JOB, "trip 0:0 / 0\nx\ntrip 9:0 / 9")

    def test_empty_rows(self):
        self.refused(0, read_plan, JOB, "\n")
        self.refused(1, read_plan, JOB, "trip 0:0 / 0\n")
        self.refused(0, read_plan, JOB, "\ntrip 0:0 / 0")
        self.refused(1, read_plan, JOB, "trip 0:0 / 0\n\ntrip 0:0 / 0")

    def test_the_told_list_is_the_askers_own_and_the_job_stays(self):
        job = copy.deepcopy(JOB)
        told = read_plan(job, "trip 0:0 / 0")
        told.append(5)
        self.assertEqual(read_plan(job, "trip 0:0 / 0"), [lone(0, 0)])
        self.assertEqual(job, JOB)


if __name__ == "__main__":
    unittest.main()
