import unittest

from pickboard.errors import BadRow, BoardError, NoJob
from pickboard.jobs import ahead_of, behind_of
from pickboard.least import least_plan
from pickboard.planning import plan_for
from pickboard.plans import is_right, is_whole
from pickboard.prices import bound_of, prices_for
from pickboard.runs import run_plan
from pickboard.sheet import answers_to
from pickboard.texts import job_text, read_plan
from pickboard.tips import fewest_changes
from pickboard.trips import shortest_trip
from samples import BARE_JOB, FREE_JOB, GATE, JOB, board_of, job_with, put_at, some_job, stocked

SHORT_JOB = put_at(JOB, 2, (("chip", (10, 0), 1), ("diode", (20, 0), 1)))
FEW_JOB = put_at(JOB, 2, (("chip", (10, 0), 9), ("diode", (20, 0), 9), ("coil", (40, 0), 0), ("chip", (30, 0), 1)))
NINE_JOB = (GATE, 4, (("chip", (3, 0), 60),), board_of(9), ())
THIRTEEN_JOB = (GATE, 4, (("chip", (3, 0), 60),), board_of(13), ())
FULL_JOB = stocked(JOB)


def sheet(job, *asks):
    return "\n".join([job_text(job), "asks"] + list(asks))


def numbers(told):
    """The numbers of an answer, none of `-`."""
    return [] if told == "-" else [int(word) for word in told.split(" ")]


class SheetCase(unittest.TestCase):
    def answers(self, job, asks, answers):
        """Holds to it that each ask has its answer, by itself and all in one sheet."""
        told = answers_to(sheet(job, *asks))
        self.assertIsInstance(told, list)
        self.assertEqual(told, answers)
        for ask, answer in zip(asks, answers):
            self.assertEqual(answers_to(sheet(job, ask)), [answer])

    def refused(self, row, text):
        with self.assertRaises(BadRow, msg=text) as caught:
            answers_to(text)
        self.assertEqual(caught.exception.row, row, text)
        self.assertIs(caught.exception.row.__class__, int)
        self.assertIsInstance(caught.exception, BoardError)

    def refused_ask(self, job, ask):
        """Holds to it that an ask isn't so written, wherever it stands among others."""
        start = len(job_text(job).split("\n")) + 1
        self.refused(start, sheet(job, ask))
        self.refused(start, sheet(job, ask, "wanted"))
        self.refused(start + 2, sheet(job, "wanted", "plan", ask))
        self.refused(start + 1, sheet(job, "least", ask, "bound", ask))


class AnswersTest(SheetCase):
    def test_wanted(self):
        self.answers(JOB, ["wanted"], ["chip:2 diode:2"])
        self.answers(NINE_JOB, ["wanted"], ["chip:9"])
        self.answers(BARE_JOB, ["wanted"], ["-"])
        self.answers(job_with(parts=(), aheads=()), ["wanted"], ["-"])

    def test_ahead(self):
        self.answers(JOB, ["ahead 0", "ahead 1", "ahead 2", "ahead 3"], ["-", "0", "-", "0 1 2"])

    def test_behind(self):
        self.answers(JOB, ["behind 0", "behind 1", "behind 2", "behind 3"], ["1 3", "3", "3", "-"])

    def test_ahead_and_behind_of_many(self):
        job = some_job(4, 60, feeders=20, pairs=150, side=40)
        asks = [f"ahead {part}" for part in range(60)] + [f"behind {part}" for part in range(40)]
        told = answers_to(sheet(job, *asks))
        self.assertEqual([numbers(row) for row in told],
                         [ahead_of(job, part) for part in range(60)] + [behind_of(job, part) for part in range(40)])

    def test_shortest(self):
        self.answers(JOB, ["shortest 0", "shortest 1", "shortest 2", "shortest 3"], ["110", "140", "150", "180"])
        job = put_at(JOB, 1, 4)
        groups = [[0], [0, 1], [1, 3], [0, 2, 3], [0, 1, 2, 3]]
        told = answers_to(sheet(job, *["shortest " + " ".join(map(str, group)) for group in groups]))
        self.assertEqual(told, [str(shortest_trip(job, group)[0]) for group in groups])

    def test_shortest_needs_no_stock(self):
        empty = put_at(JOB, 2, tuple((kind, place, 0) for kind, place, many in JOB[2]))
        self.answers(empty, ["shortest 0"], ["110"])

    def test_least(self):
        self.answers(FULL_JOB, ["least"], [str(least_plan(FULL_JOB)[0])])
        self.answers(BARE_JOB, ["least"], ["0"])

    def test_least_refused(self):
        self.answers(FEW_JOB, ["least"], ["refused NotStocked"])
        self.answers(NINE_JOB, ["least"], ["refused TooMany"])
        # Of both the one told first goes.
        self.answers(put_at(NINE_JOB, 2, (("chip", (3, 0), 8),)), ["least"], ["refused NotStocked"])

    def test_bound(self):
        for job in [JOB, FULL_JOB, NINE_JOB, SHORT_JOB]:
            self.answers(job, ["bound"], [str(bound_of(prices_for(job)))])
        self.answers(BARE_JOB, ["bound"], ["0"])
        self.answers(THIRTEEN_JOB, ["bound"], ["refused TooMany"])

    def test_plan(self):
        for job in [JOB, FREE_JOB, FULL_JOB, NINE_JOB, THIRTEEN_JOB, stocked(some_job(1, 30, side=30, pairs=9))]:
            told, = answers_to(sheet(job, "plan"))
            plan = read_plan(job, told.replace("; ", "\n"))
            self.assertIs(is_right(job, plan) and is_whole(job, plan), True)
            self.assertEqual(plan, plan_for(job))
            self.assertEqual(told.count("trip"), told.count("; ") + 1)
        self.assertIn("; ", answers_to(sheet(NINE_JOB, "plan"))[0])

    def test_plan_by_hand(self):
        job = (GATE, 1, (("chip", (3, 0), 2),), (("chip", (0, 9)), ("chip", (5, 5))), ((1, 0),))
        self.answers(job, ["plan"], ["trip 1:0 / 1; trip 0:0 / 0"])
        self.answers(BARE_JOB, ["plan"], ["-"])

    def test_plan_refused(self):
        self.answers(SHORT_JOB, ["plan"], ["refused Short"])

    def test_run(self):
        parts = (("chip", (0, 9)), ("chip", (5, 5)), ("chip", (1, 1)))
        job = (GATE, 1, (("chip", (3, 0), 3),), parts, ((1, 0), (0, 2)))
        self.answers(job, ["run 1 -", "run 1 +++", "run 1 x", "run 1 +x", "run 1 ++x", "run 5 -"],
                     ["0 1 2 |", "0 1 2 |", "| 0 1 2", "1 | 0 2", "0 1 | 2", "0 1 2 |"])
        # The feeder runs out behind three tries.
        self.answers(job, ["run 2 x+", "run 4 xxx", "run 3 xxx", "run 5 xx"],
                     ["0 1 | 2", "| 0 1 2", "| 0 1 2", "1 | 0 2"])

    def test_run_of_the_shortest_plan(self):
        for seed in range(12):
            job = stocked(some_job(seed, 2 + seed % 5, pairs=seed % 4, heads=1 + seed % 3))
            for luck in ["-", "x", "+x", "xx+x", "x" * 400, "+" * 400]:
                turns = [] if luck == "-" else [sign == "+" for sign in luck]
                events, laid, given, way = run_plan(job, least_plan(job)[1], turns, 1 + seed % 5)
                told, = answers_to(sheet(job, f"run {1 + seed % 5} {luck}"))
                one, other = [side.split() for side in told.split("|")]
                self.assertEqual(([int(word) for word in one], [int(word) for word in other]), (laid, given))
                self.assertEqual(told, " ".join([str(part) for part in laid] + ["|"] + [str(part) for part in given]))

    def test_run_without_parts(self):
        self.answers(BARE_JOB, ["run 1 -", "run 5 xx"], ["|", "|"])

    def test_run_refused(self):
        self.answers(FEW_JOB, ["run 1 -", "run 2 +x"], ["refused NotStocked"] * 2)
        self.answers(NINE_JOB, ["run 1 -", "run 2 +x"], ["refused TooMany"] * 2)

    def test_tips(self):
        self.answers(JOB, ["tips a", "tips a b c d e f", "tips a / b", "tips a / b / a / b", "tips a b / c / a / c"],
                     ["0", "0", "1", "3", "1"])
        self.answers(JOB, ["tips a /", "tips a / /", "tips a / b / / a", "tips a / / b /", "tips a a / b b / a"],
                     ["0", "0", "2", "1", "3"])
        self.answers(BARE_JOB, ["tips letterse x / x letterse"], ["0"])

    def test_as_many_needs_as_may_be(self):
        first, needs = ["a"] * 6, [["b"] * 6, [], ["a", "c"]] * 20
        ask = "tips " + " / ".join(" ".join(row) for row in [first] + needs).replace("  ", " ")
        self.answers(JOB, [ask], [str(fewest_changes(first, needs))])

    def test_all_in_one_sheet(self):
        asks = ["wanted", "ahead 3", "behind 0", "shortest 0", "least", "bound", "plan", "run 1 -", "tips a / b"]
        told = answers_to(sheet(FULL_JOB, *asks))
        self.assertEqual(len(told), 9)
        self.assertEqual(told[:4], ["chip:2 diode:2", "0 1 2", "1 3", "110"])
        self.assertEqual(told[7:], ["0 1 2 3 |", "1"])
        for ask, answer in zip(asks, told):
            self.assertEqual(answers_to(sheet(FULL_JOB, ask)), [answer])
        self.assertEqual(answers_to(sheet(FULL_JOB, *asks[::-1])), told[::-1])

    def test_refused_asks_beside_others(self):
        asks = ["least", "wanted", "run 1 -", "bound", "plan", "tips a / b", "least"]
        self.assertEqual(answers_to(sheet(SHORT_JOB, *asks)),
                         ["refused NotStocked", "chip:2 diode:2", "refused NotStocked",
                          str(bound_of(prices_for(SHORT_JOB))), "refused Short", "1", "refused NotStocked"])
        self.assertEqual(answers_to(sheet(THIRTEEN_JOB, "bound", "least", "shortest 0 1"))[:2], ["refused TooMany"] * 2)

    def test_no_asks_at_all(self):
        for job in [JOB, BARE_JOB]:
            self.assertEqual(answers_to(sheet(job)), [])

    def test_one_hundred_asks(self):
        asks = ["wanted", "ahead 1", "behind 1", "bound"] * 25
        told = answers_to(sheet(JOB, *asks))
        self.assertEqual(told, answers_to(sheet(JOB, *asks[:4])) * 25)
        told = answers_to(sheet(stocked(some_job(2, 12, heads=4, side=40)), *["bound", "plan"] * 50))
        self.assertEqual(len(told), 100)
        self.assertEqual(len(set(told)), 2)

    def test_the_told_list_is_the_askers_own(self):
        told = answers_to(sheet(JOB, "wanted"))
        told.append("x")
        self.assertEqual(answers_to(sheet(JOB, "wanted")), ["chip:2 diode:2"])


class FaultyAsksTest(SheetCase):
    def test_words(self):
        for ask in ["", " ", "x", "want", "wanteds", "Wanted", "WANTED", "shows", "trip 0:0 / 0", "gate 0 0 1", "0",
                    "ask", "feeder chip 1 2 3", "ahead 0 1", "-", "asks", "refused Short", "wanted;", "wanted; plan"]:
            self.refused_ask(JOB, ask)

    def test_asks_without_more_words(self):
        for word in ["wanted", "least", "bound", "plan"]:
            for ask in [word + " ", " " + word, word + " 0", word + " -", word + "  ", word + " " + word]:
                self.refused_ask(JOB, ask)

    def test_a_part(self):
        for word in ["ahead", "behind", "shortest"]:
            for rest in ["", " ", "  0", " 0 ", " 4", " 60", " 999999", " 1000000", " -1", " +1", " 00", " 01", " x",
                         " 0:0", " 0,1", " chip", " 1.0", " True"]:
                self.refused_ask(JOB, word + rest)
            self.refused_ask(BARE_JOB, word + " 0")
        for word in ["ahead", "behind"]:
            for rest in [" 0 1", " 1 2", " 0 0", " 0 1 2"]:
                self.refused_ask(put_at(JOB, 1, 4), word + rest)

    def test_the_least_part_that_there_is_not(self):
        for word in ["ahead", "behind", "shortest"]:
            self.assertEqual(len(answers_to(sheet(NINE_JOB, word + " 8"))), 1)
            self.refused_ask(NINE_JOB, word + " 9")
            self.refused_ask(NINE_JOB, word + " 10")

    def test_parts_that_do_not_rise_or_are_too_many(self):
        for ask in ["shortest 1 0", "shortest 0 0", "shortest 0 1 2", "shortest 0 4", "shortest 4 5", "shortest 0  1",
                    "shortest 0 1 ", "shortest 0 x", "shortest 0, 1", "shortest 0 01"]:
            self.refused_ask(JOB, ask)
        for ask in ["shortest 0 1 2 3 4", "shortest 0 1 3 2", "shortest 0 1 1 2", "shortest 2 1", "shortest 0 1 2 2"]:
            self.refused_ask(put_at(NINE_JOB, 1, 4), ask)
        self.refused_ask(put_at(JOB, 1, 1), "shortest 0 1")
        self.assertEqual(len(answers_to(sheet(put_at(NINE_JOB, 1, 4), "shortest 0 1 2 8"))), 1)

    def test_run(self):
        for rest in ["", " ", " 1", " -", " 1 ", " - 1", " 0 -", " 6 -", " 10 -", " 01 -", " +1 -", " -1 -", " x -",
                     " 1000000 -", " 1 - -", " 1 + -", " 1 + x", " 1 +-", " 1 -+", " 1 --", " 1 X", " 1 +X", " 1 ++y",
                     " 1  +", "  1 +", " 1 + ", " 1 0", " 1 1", " 1 True", " 1 /", " 1 +|",
                     " 1 " + "+" * 401, " 1 " + "x" * 401]:
            self.refused_ask(FULL_JOB, "run" + rest)
            # Also where the run itself would be refused.
            self.refused_ask(NINE_JOB, "run" + rest)

    def test_every_sign_as_luck(self):
        for sign in map(chr, range(32, 127)):
            if sign not in "+x-":
                self.refused_ask(FULL_JOB, "run 1 " + sign)
            if sign not in "+x":
                self.refused_ask(FULL_JOB, "run 1 x" + sign)

    def test_tips(self):
        for rest in ["", " ", " /", " / a", " a /b", " a/ b", " a/b", " a  b", " a ", "  a", " a / ", " a /  / b",
                     " a  / b", " a / b c", " a b / a b c", " a / b / c d", " a b c d e f g", " A", " a1", " ninechars",
                     " a / B", " a / ninechars", " 1", " a , b", " a | b", " a / -", " -", " a" + " /" * 61,
                     " a" + " / b" * 61]:
            self.refused_ask(JOB, "tips" + rest)
        self.assertEqual(answers_to(sheet(JOB, "tips a" + " /" * 60, "tips a" + " / b" * 60)), ["0", "1"])


class FaultySheetsTest(SheetCase):
    def test_no_asks_row(self):
        self.refused(1, "")
        self.refused(2, "\n")
        self.refused(1, "gate 0 0 1")
        self.refused(2, "gate 0 0 1\n")
        self.refused(3, "gate 0 0 1\nwanted\nleast")
        for word in ["asks ", " asks", "Asks", "ask", "asks:", "asks 1"]:
            self.refused(3, f"gate 0 0 1\n{word}\nwanted")
        # It is looked for first: whatever the rows of the job are.
        self.refused(4, "gate 0 0 9\nx\n\ngate 0 0 1")
        self.refused(12, job_text(JOB))

    def test_faulty_rows_of_the_job(self):
        self.refused(0, "\nasks")
        self.refused(0, "x\nasks")
        self.refused(0, "gate 0 0\nasks")
        self.refused(0, "gate 0 0 01\nasks")
        self.refused(1, "gate 0 0 1\ngate 0 0 1\nasks")
        self.refused(1, "gate 0 0 1\n\nasks")
        self.refused(2, "gate 0 0 1\npart chip 1 2\nfeeder chip 1 2 3\nasks")
        self.refused(1, "feeder chip 1 2 3\ngate 0 0 1\nasks")
        self.refused(12, job_text(JOB) + "\n\nasks\nwanted")

    def test_no_gate(self):
        # The count is that of the rows of the job.
        self.refused(1, "feeder chip 1 2 3\nasks")
        self.refused(2, "feeder chip 1 2 3\npart chip 1 2\nasks\nwanted\nleast")
        self.refused(0, "asks")
        self.refused(0, "asks\nwanted")
        self.refused(0, "asks\n" + job_text(JOB))

    def test_no_job(self):
        for text in ["gate 0 0 5\nasks", "gate 0 0 1\nahead 0 1\nasks\nwanted", job_text(JOB) + "\nahead 3 0\nasks"]:
            with self.assertRaises(NoJob):
                answers_to(text)

    def test_a_faulty_row_of_the_job_and_a_faulty_ask(self):
        self.refused(0, "x\nasks\nx")
        self.refused(3, "gate 0 0 1\nfeeder chip 1 2 3\npart chip 1 2\nx\nasks\nx\nwanted")
        self.refused(1, "feeder chip 1 2 3\nasks\nx")

    def test_no_job_goes_ahead_of_a_faulty_ask(self):
        for ask in ["x", "", "asks", "ahead 9"]:
            with self.assertRaises(NoJob):
                answers_to("gate 0 0 5\nasks\n" + ask)

    def test_an_asks_row_twice(self):
        self.refused(2, "gate 0 0 1\nasks\nasks")
        self.refused(3, "gate 0 0 1\nasks\nwanted\nasks\nwanted")

    def test_a_line_feed_at_the_end(self):
        self.refused(2, "gate 0 0 1\nasks\n")
        self.refused(3, "gate 0 0 1\nasks\nwanted\n")

    def test_of_several_faulty_asks_the_first_one(self):
        self.refused(3, "gate 0 0 1\nasks\nwanted\nx\ny\nwanted")

    def test_a_faulty_ask_behind_refused_ones(self):
        self.refused(len(job_text(SHORT_JOB).split("\n")) + 4, sheet(SHORT_JOB, "least", "plan", "run 1 -", "x"))


if __name__ == "__main__":
    unittest.main()
