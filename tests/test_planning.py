import copy
import unittest
from random import Random

from pickboard.errors import Short
from pickboard.jobs import is_job, wanted_of
from pickboard.plans import is_right, is_whole, plan_way
from pickboard.planning import plan_for
from samples import BARE_JOB, GATE, JOB, all_flaws, board_of, job_with, put_at, some_job, stocked


def just_enough(job, seed):
    """The job with feeders that together have just as many of each kind as are wanted."""
    chance = Random(seed)
    stock = [0] * len(job[2])
    for kind, many in wanted_of(job):
        holding = [at for at, row in enumerate(job[2]) if row[0] == kind]
        for step in range(many):
            stock[chance.choice(holding)] += 1
    return put_at(job, 2, tuple((kind, place, many) for (kind, place, old), many in zip(job[2], stock)))


class PlanForTest(unittest.TestCase):
    def check(self, job):
        self.assertTrue(is_job(job), job)
        plan = plan_for(job)
        self.assertIsInstance(plan, list)
        self.assertIs(is_right(job, plan), True, (job, plan))
        self.assertEqual(all_flaws(job, plan), [])
        self.assertIs(is_whole(job, plan), True, (job, plan))
        for at in range(len(plan) - 1):
            one, other = plan[at], plan[at + 1]
            joined = plan[:at] + [(one[0] + other[0], one[1] + other[1])] + plan[at + 2:]
            if is_right(job, joined):
                self.assertGreaterEqual(plan_way(job, joined), plan_way(job, plan), (job, plan, at))
        return plan

    def test_small_jobs_that_have_just_enough(self):
        for seed in range(300):
            job = some_job(seed, seed % 9, feeders=3 + seed % 4, kinds=1 + seed % 3, heads=1 + seed % 4, pairs=seed % 7)
            self.check(just_enough(job, seed))

    def test_small_jobs_that_have_plenty(self):
        for seed in range(100):
            self.check(stocked(some_job(seed, seed % 9, feeders=5, kinds=3, heads=1 + seed % 4, pairs=seed % 5)))

    def test_places_far_from_the_gate_and_near_to_it(self):
        for seed in range(60):
            job = some_job(seed, 7, feeders=6, kinds=2, heads=2 + seed % 3, pairs=3, side=3 + seed)
            self.check(just_enough(job, seed))

    def test_sixty_parts(self):
        for seed in range(6):
            job = some_job(seed, 60, feeders=20, kinds=1 + seed % 4, heads=1 + seed % 4, pairs=40 * seed, side=90)
            self.check(just_enough(job, seed))

    def test_a_long_row_of_aheads(self):
        for step in [1, -1]:
            aheads = tuple((at, at + 1)[::step] for at in range(59))
            plan = self.check((GATE, 4, (("chip", (5, 5), 60),), board_of(60), aheads))
            self.assertEqual([part for picks, lays in plan for part in lays], list(range(60))[::step])

    def test_a_feeder_with_none_is_left_alone(self):
        job = job_with((("chip", (1, 1), 0), ("chip", (900, 900), 3)), board_of(3), ())
        for picks, lays in self.check(job):
            self.assertEqual({feeder for part, feeder in picks}, {1})

    def test_trips_that_are_shorter_put_together(self):
        job = (GATE, 4, (("chip", (10, 0), 4),), tuple(("chip", (100, at)) for at in range(4)), ())
        plan = self.check(job)
        self.assertLess(len(plan), 4)

    def test_trips_that_are_longer_put_together(self):
        feeders = (("chip", (0, 500), 1), ("coil", (1000, 500), 1))
        job = ((500, 500), 2, feeders, (("chip", (0, 501)), ("coil", (1000, 501))), ())
        plan = self.check(job)
        self.assertEqual((len(plan), plan_way(job, plan)), (2, 2 * (500 + 1 + 500)))

    def test_without_parts(self):
        self.assertEqual(plan_for(BARE_JOB), [])
        self.assertEqual(plan_for(job_with(parts=(), aheads=())), [])
        self.assertEqual(plan_for(job_with((("chip", (1, 1), 0),), (), ())), [])

    def test_the_told_list_is_the_askers_own_and_the_job_stays(self):
        job = copy.deepcopy(JOB)
        told = plan_for(job)
        kept = list(told)
        told.clear()
        again = plan_for(job)
        self.assertEqual(again, kept)
        self.assertIsNot(plan_for(job), again)
        self.assertEqual(job, JOB)


class ShortTest(unittest.TestCase):
    def refused(self, kind, job):
        self.assertTrue(is_job(job))
        with self.assertRaises(Short) as caught:
            plan_for(job)
        self.assertIs(caught.exception.__class__, Short)
        self.assertEqual(caught.exception.kind, kind)

    def test_one_too_few(self):
        for many in [1, 2, 30, 60]:
            self.refused("chip", job_with((("chip", (1, 1), many - 1),), board_of(many), ()))

    def test_a_kind_that_just_suffices_is_let(self):
        for many in [1, 2, 30, 60]:
            job = job_with((("chip", (1, 1), many),), board_of(many), ())
            self.assertIs(is_right(job, plan_for(job)), True)

    def test_feeders_of_a_kind_count_together(self):
        for stock in [(3, 0, 0), (1, 1, 1), (0, 2, 1), (0, 0, 3)]:
            feeders = tuple(("chip", (at, 1), many) for at, many in enumerate(stock))
            job = job_with(feeders, board_of(3), ())
            self.assertIs(is_whole(job, plan_for(job)), True)
            self.refused("chip", job_with(feeders, board_of(4), ()))

    def test_feeders_of_another_kind_do_not_help(self):
        self.refused("chip", job_with((("chip", (1, 1), 2), ("coil", (1, 1), 400)), board_of(3), ()))

    def test_the_least_such_kind(self):
        parts = tuple((kind, (at, 7)) for at, kind in enumerate(["z", "coil", "a", "chip", "chip"]))

        def job_of(stock):
            return job_with(tuple((kind, (1, 1), many) for kind, many in stock.items()), parts, ())
        self.refused("a", job_of({"z": 0, "coil": 0, "chip": 1, "a": 0}))
        self.refused("chip", job_of({"z": 0, "coil": 0, "chip": 1, "a": 1}))
        self.refused("coil", job_of({"z": 0, "coil": 0, "chip": 2, "a": 1}))
        self.refused("z", job_of({"z": 0, "coil": 1, "chip": 2, "a": 1}))
        self.assertIs(is_whole(job_of({"z": 1, "coil": 1, "chip": 2, "a": 1}), plan_for(
            job_of({"z": 1, "coil": 1, "chip": 2, "a": 1}))), True)

    def test_a_kind_that_is_not_wanted_may_have_none(self):
        job = job_with((("a", (1, 1), 0), ("chip", (1, 1), 2)), board_of(2), ())
        self.assertIs(is_whole(job, plan_for(job)), True)


if __name__ == "__main__":
    unittest.main()
