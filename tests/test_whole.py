"""What is promised of the program as a whole, and of all its functions alike."""

import copy
import importlib
import inspect
import unittest
from random import Random

from pickboard import errors
from pickboard.errors import BadRow, BoardError, NoJob, NotStocked, Short, TooMany
from pickboard.flaws import flaw_of
from pickboard.jobs import is_job, is_stocked
from pickboard.least import least_plan, least_table, shows_least, shows_table
from pickboard.mending import mended_plan, restocked_job
from pickboard.planning import plan_for
from pickboard.plans import is_right, is_whole, order_of, plan_way
from pickboard.prices import bound_of, prices_for, shows_prices
from pickboard.rails import meets_at, moves_together, never_moves, shows_never, shows_together
from pickboard.runs import lies_right, run_plan, shows_run
from pickboard.sheet import answers_to
from pickboard.slots import matched_slots, paper_for, placed_feeders, shows_matched, slot_costs
from pickboard.texts import job_text, plan_text, read_job, read_plan
from pickboard.tips import bear_tips, changes_in, fewest_changes, shows_bear
from pickboard.tracks import is_track, track_of
from pickboard.trips import shortest_trip, shows_shortest
from samples import BARE_JOB, JOB, lists_in, right_plan, some_job, stocked

# Each file's names, each with how many things it is handed.
INTERFACE = {
    "places": {"is_name": 1, "is_place": 1, "way_between": 2, "length_of": 1, "going_to": 3},
    "jobs": {"is_job": 1, "ring_in": 2, "ahead_of": 2, "behind_of": 2, "feeders_for": 2, "wanted_of": 1,
             "is_stocked": 1},
    "plans": {"is_trip": 2, "stops_of": 2, "trip_way": 2, "plan_way": 2, "order_of": 1, "left_in": 2, "is_right": 2,
              "is_whole": 2},
    "flaws": {"flaw_of": 2},
    "trips": {"shortest_trip": 2, "shows_shortest": 3, "alone_ways": 1},
    "least": {"least_table": 1, "least_plan": 1, "shows_table": 2, "shows_least": 3},
    "prices": {"shows_prices": 2, "prices_for": 1, "bound_of": 1},
    "planning": {"plan_for": 1},
    "tips": {"bear_tips": 2, "changes_in": 2, "fewest_changes": 2, "shows_bear": 3},
    "slots": {"matched_slots": 1, "paper_for": 1, "shows_paper": 2, "shows_matched": 3, "slot_costs": 2,
              "placed_feeders": 2},
    "runs": {"run_plan": 4, "shows_run": 5, "lies_right": 2},
    "mending": {"mended_plan": 3, "restocked_job": 2},
    "tracks": {"is_track": 1, "track_by": 2, "track_of": 3},
    "rails": {"meets_at": 3, "moves_together": 3, "shows_together": 4, "never_moves": 3, "shows_never": 4},
    "texts": {"job_text": 1, "read_job": 1, "plan_text": 1, "read_plan": 2},
    "sheet": {"answers_to": 1},
}


def deed_of(file, name):
    return getattr(importlib.import_module(f"pickboard.{file}"), name)


def some_asks(seed):
    """Questions to each function of the interface, as triples of file, name and what is handed in."""
    chance = Random(seed)
    job = stocked(some_job(seed, 3 + seed % 4, kinds=2, heads=1 + seed % 4, pairs=2, side=12))
    plan = right_plan(chance, job, whole=True)
    part = seed % len(job[3])
    luck = [chance.random() < 0.6 for step in range(12)]
    stock = [chance.randint(0, 2) for feeder in job[2]]
    places = [place for kind, place in job[3]]
    costs = [[chance.randint(0, 9) for column in range(5)] for row in range(4)]
    first, needs = ["a", "b", "a"], [[], ["c"], [], ["a", "a"], ["b"]]
    left, right = [3, 4, 5, 4, 3], [6, 5, 4, 5, 6]
    events, laid, given, way = run_plan(job, plan, luck, 2)
    sheet = job_text(job) + "\nasks\nwanted\nahead 1\nbehind 1\nshortest 0\nleast\nbound\nplan\nrun 2 x+x\ntips a / b"
    return [
        ("places", "is_name", ["chip"]), ("places", "is_place", [(1, 2)]),
        ("places", "way_between", places[:2]), ("places", "length_of", [places]),
        ("places", "going_to", places[:2] + [3]),
        ("jobs", "is_job", [job]), ("jobs", "ring_in", [4, [(0, 1), (1, 2), (2, 0)]]),
        ("jobs", "ring_in", [9, list(job[4])]), ("jobs", "ahead_of", [job, part]), ("jobs", "behind_of", [job, part]),
        ("jobs", "feeders_for", [job, "chip"]), ("jobs", "wanted_of", [job]), ("jobs", "is_stocked", [job]),
        ("plans", "is_trip", [job, plan[0]]), ("plans", "stops_of", [job, plan[0]]),
        ("plans", "trip_way", [job, plan[0]]), ("plans", "plan_way", [job, plan]), ("plans", "order_of", [plan]),
        ("plans", "left_in", [job, plan]), ("plans", "is_right", [job, plan]), ("plans", "is_whole", [job, plan]),
        ("flaws", "flaw_of", [job, plan + plan]),
        ("trips", "shortest_trip", [job, [part]]), ("trips", "shows_shortest", [job, [part], (5, plan[0])]),
        ("trips", "alone_ways", [job]),
        ("least", "least_table", [job]), ("least", "least_plan", [job]), ("least", "shows_table", [job, [((), 0)]]),
        ("least", "shows_least", [job, plan, least_table(job)]),
        ("prices", "shows_prices", [job, [0] * len(job[3])]), ("prices", "prices_for", [job]),
        ("prices", "bound_of", [[4, 5, 6]]), ("planning", "plan_for", [job]),
        ("tips", "bear_tips", [first, needs]), ("tips", "changes_in", [first, [["a", "b", "c"], ["a", "a", "a"]]]),
        ("tips", "fewest_changes", [first, needs]), ("tips", "shows_bear", [first, needs, [first] * 5]),
        ("slots", "matched_slots", [costs]), ("slots", "paper_for", [costs]),
        ("slots", "shows_paper", [costs, paper_for(costs)]),
        ("slots", "shows_matched", [costs, matched_slots(costs)[1], paper_for(costs)]),
        ("slots", "slot_costs", [job, places]), ("slots", "placed_feeders", [job, places]),
        ("runs", "run_plan", [job, plan, luck, 2]),
        ("runs", "shows_run", [job, plan, luck, 2, (events, laid, given, way)]), ("runs", "lies_right", [job, events]),
        ("mending", "mended_plan", [job, plan, stock]), ("mending", "restocked_job", [job, stock]),
        ("tracks", "is_track", [left]), ("tracks", "track_by", [places, 2]), ("tracks", "track_of", [job, plan, 1]),
        ("rails", "meets_at", [left, right, 0]), ("rails", "moves_together", [left, right, 0]),
        ("rails", "shows_together", [left, right, 0, ["both"] * 4]), ("rails", "never_moves", [left, right, 1]),
        ("rails", "never_moves", [left, right, 4]), ("rails", "shows_never", [left, right, 4, [[]] * 5]),
        ("texts", "job_text", [job]), ("texts", "read_job", [job_text(job)]), ("texts", "plan_text", [plan]),
        ("texts", "read_plan", [job, plan_text(plan)]), ("sheet", "answers_to", [sheet]),
    ]


def spoil(thing):
    """Changes all lists that were told."""
    for one in lists_in(thing):
        one.clear()
        one.append("spoiled")


class InterfaceTest(unittest.TestCase):
    def test_all_names_are_there(self):
        for file, names in INTERFACE.items():
            for name, many in names.items():
                deed = deed_of(file, name)
                self.assertTrue(inspect.isfunction(deed), name)
                self.assertEqual(deed.__module__, f"pickboard.{file}")
                self.assertEqual(len(inspect.signature(deed).parameters), many, name)

    def test_refusals(self):
        for one in [NotStocked, TooMany, Short, BadRow, NoJob]:
            self.assertEqual(one.__bases__, (BoardError,))
        self.assertEqual(BoardError.__bases__, (ValueError,))
        classes = [one for name, one in vars(errors).items() if inspect.isclass(one)]
        self.assertEqual(len(classes), 6)

    def test_each_function_is_asked_below(self):
        asked = {(file, name) for file, name, handed in some_asks(1)}
        self.assertEqual(asked, {(file, name) for file, names in INTERFACE.items() for name in names})


class EveryFunctionTest(unittest.TestCase):
    def test_nothing_that_is_handed_in_is_changed_or_kept(self):
        for seed in range(6):
            for file, name, handed in some_asks(seed):
                given = copy.deepcopy(handed)
                told = deed_of(file, name)(*given)
                again = copy.deepcopy(told)
                self.assertEqual(given, handed, name)
                spoil(given)
                self.assertEqual(told, again, name)
                self.assertEqual(deed_of(file, name)(*handed), again, name)

    def test_no_two_told_lists_are_one_and_the_same(self):
        for seed in range(6):
            for file, name, handed in some_asks(seed):
                one, other = deed_of(file, name)(*handed), deed_of(file, name)(*handed)
                told = lists_in(one) + lists_in(other)
                self.assertEqual(len({id(row) for row in told}), len(told), name)
                self.assertEqual({id(row) for row in told} & {id(row) for row in lists_in(handed)}, set(), name)

    def test_what_is_asked_twice_is_told_the_same(self):
        first = {}
        for seed in range(4):
            for at, (file, name, handed) in enumerate(some_asks(seed)):
                told = deed_of(file, name)(*handed)
                first[seed, at] = copy.deepcopy(told)
                spoil(told)
        # All the other jobs were asked of in between, and what was told was changed.
        for seed in range(4):
            for at, (file, name, handed) in reversed(list(enumerate(some_asks(seed)))):
                self.assertEqual(deed_of(file, name)(*handed), first[seed, at], name)

    def test_refusals_leave_all_as_it_was(self):
        job = some_job(1, 13, heads=2, most=0)
        for deed, error in [(least_plan, NotStocked), (prices_for, TooMany), (plan_for, Short)]:
            for step in range(2):
                with self.assertRaises(error):
                    deed(job)
            self.assertEqual(job, some_job(1, 13, heads=2, most=0))


class TheWholeTest(unittest.TestCase):
    def jobs(self):
        """Jobs of up to eight parts, with slots for their kinds."""
        for seed in range(25):
            chance = Random(seed)
            job = some_job(seed, seed % 9, feeders=5, kinds=1 + seed % 4, heads=1 + seed % 4, pairs=seed % 5, side=20)
            yield chance, job, [(chance.randint(0, 20), chance.randint(0, 20)) for slot in range(4 + seed % 4)]

    def check_plan(self, job, plan):
        self.assertIs(is_right(job, plan), True)
        self.assertIs(is_whole(job, plan), True)
        self.assertIsNone(flaw_of(job, plan))

    def test_from_slots_to_the_board(self):
        for chance, bare, slots in self.jobs():
            costs = slot_costs(bare, slots)
            self.assertIs(shows_matched(costs, matched_slots(costs)[1], paper_for(costs)), True)
            job = placed_feeders(bare, slots)
            self.assertIs(is_job(job) and is_stocked(job), True)
            way, plan = least_plan(job)
            self.check_plan(job, plan)
            self.assertEqual(plan_way(job, plan), way)
            self.assertIs(shows_least(job, plan, least_table(job)), True)
            quick = plan_for(job)
            self.check_plan(job, quick)
            self.assertLessEqual(way, plan_way(job, quick))
            self.assertLessEqual(bound_of(prices_for(job)), way)
            self.check_runs(chance, job, [plan, quick])
            self.check_texts(job, [plan, quick])

    def check_runs(self, chance, job, plans):
        for plan in plans:
            luck = [chance.random() < 0.6 for step in range(30)]
            told = run_plan(job, plan, luck, 2)
            events, laid, given, way = told
            self.assertIs(shows_run(job, plan, luck, 2, told), True)
            self.assertIs(lies_right(job, events), True)
            self.assertEqual(sorted(laid + given), sorted(order_of(plan)))
            stock = [chance.randint(0, many) for kind, place, many in job[2]]
            mended, moved, dropped = mended_plan(job, plan, stock)
            fewer = restocked_job(job, stock)
            self.assertIs(is_right(fewer, mended), True)
            self.assertEqual(sorted(order_of(mended) + dropped), sorted(order_of(plan)))
            self.assertEqual(run_plan(fewer, mended, [], 1)[1], sorted(order_of(mended)))
            self.check_texts(fewer, [mended])

    def check_texts(self, job, plans):
        again = read_job(job_text(job))
        self.assertEqual(again, job)
        for plan in plans:
            self.assertEqual(read_plan(again, plan_text(plan)), plan)
        if is_stocked(job):
            least, planned, run = answers_to(job_text(job) + "\nasks\nleast\nplan\nrun 1 -")
            self.assertEqual(least, str(least_plan(job)[0]))
            self.assertEqual(planned, "; ".join(plan_text(plan_for(job)).split("\n")) or "-")
            self.assertEqual(run, " ".join([str(part) for part in range(len(job[3]))] + ["|"]))

    def test_two_carriages(self):
        told = []
        for chance, bare, slots in self.jobs():
            job = stocked(bare)
            one = track_of(job, plan_for(job), 1)
            shift = chance.choice([2, 8, 15, 19])
            other = [number + shift for number in track_of(job, least_plan(job)[1], 2)]
            self.assertIs(is_track(one) and is_track(other), True)
            for left, right in [(one, other), (one[:60], other[:60])]:
                moves = moves_together(left, right, 1)
                self.assertIs(shows_together(left, right, 1, moves), moves is not None)
                never = never_moves(left, right, 1)
                self.assertIs(shows_never(left, right, 1, never), moves is None)
                self.assertIs(never is None, moves is not None)
                if moves is not None and meets_at(left, right, 1) is None:
                    self.assertEqual(len(moves), max(len(left), len(right)) - 1)
                told.append(moves is None)
        self.assertGreater(min(told.count(True), told.count(False)), 3)

    def test_what_one_function_tells_may_be_handed_in_to_another(self):
        for seed in range(10):
            job = stocked(some_job(seed, 8, kinds=3, heads=4, pairs=seed % 4, side=30))
            self.assertIs(shows_table(job, least_table(job)), True)
            self.assertIs(shows_prices(job, prices_for(job)), True)
            self.assertIs(shows_shortest(job, [1, 2, 5], shortest_trip(job, [1, 2, 5])), True)
            first, needs = ["a", "b"], [[job[3][at][0], job[3][at + 1][0]] for at in range(7)]
            rows = bear_tips(first, needs)
            self.assertIs(shows_bear(first, needs, rows), True)
            self.assertEqual(changes_in(first, rows), fewest_changes(first, needs))
            self.assertEqual(fewest_changes(rows[-1], []), 0)
            self.assertIs(shows_bear(first, rows, rows), True)

    def test_what_was_told_may_be_handed_in_whatever_its_size(self):
        left, right = list(range(400)), [600 - at for at in range(400)]
        never = never_moves(left, right, 0)
        self.assertGreater(sum(len(row) for row in never), 20000)
        self.assertIs(shows_never(left, right, 0, never), True)
        job = stocked(some_job(1, 60, feeders=20, heads=1, side=100))
        self.assertGreater(len(track_of(job, plan_for(job), 20)), 5000)
        self.assertIs(is_track(track_of(job, plan_for(job), 20)), True)

    def test_greater_jobs(self):
        for seed in range(4):
            chance = Random(seed)
            job = stocked(some_job(seed, 60, feeders=20, kinds=4, heads=1 + seed, pairs=50 * seed, side=40))
            plan = plan_for(job)
            self.check_plan(job, plan)
            events, laid, given, way = run_plan(job, plan, [chance.random() < 0.7 for step in range(400)], 3)
            self.assertIs(lies_right(job, events), True)
            self.assertEqual(sorted(laid + given), list(range(60)))
            mended = mended_plan(job, plan, [2] * 20)[0]
            self.assertIs(is_right(restocked_job(job, [2] * 20), mended), True)
            self.assertEqual(read_plan(read_job(job_text(job)), plan_text(mended)), mended)

    def test_jobs_with_nothing_in_them(self):
        self.assertEqual(placed_feeders(BARE_JOB, []), BARE_JOB)
        self.assertEqual(run_plan(BARE_JOB, plan_for(BARE_JOB), [], 1), ([], [], [], 0))
        self.assertEqual(mended_plan(BARE_JOB, [], []), ([], [], []))
        self.assertEqual(answers_to(job_text(BARE_JOB) + "\nasks\nwanted\nleast\nbound\nplan\nrun 1 x"),
                         ["-", "0", "0", "-", "|"])

    def test_a_job_asked_of_between_others(self):
        told = [least_plan(stocked(JOB)), plan_for(JOB), prices_for(JOB)]
        for seed in range(5):
            other = stocked(some_job(seed, 4, heads=2))
            least_plan(other), plan_for(other), prices_for(other)
        self.assertEqual([least_plan(stocked(JOB)), plan_for(JOB), prices_for(JOB)], told)


if __name__ == "__main__":
    unittest.main()
