import unittest
from random import Random

from pickboard.flaws import flaw_of
from pickboard.plans import is_right
from samples import (
    BARE_JOB, FREE_JOB, JOB, ONE, TWO, all_flaws, board_of, job_with, lone, put_at, some_job, some_plan,
)

PLAN = [ONE, TWO]


class FlawOfTest(unittest.TestCase):
    def test_none_of_right_plans(self):
        for plan in [[], [ONE], PLAN, [lone(2, 0)]]:
            self.assertIsNone(flaw_of(JOB, plan))
        self.assertIsNone(flaw_of(BARE_JOB, []))

    def test_kind(self):
        self.assertEqual(flaw_of(FREE_JOB, [lone(0, 1)]), ("kind", 0, 0))
        self.assertEqual(flaw_of(JOB, [ONE, (((1, 1), (3, 2)), (1, 3))]), ("kind", 1, 1))

    def test_twice(self):
        self.assertEqual(flaw_of(FREE_JOB, [lone(0, 0), lone(0, 2)]), ("twice", 1, 0))
        self.assertEqual(flaw_of(FREE_JOB, [lone(0, 0), lone(1, 1), (((2, 2), (0, 0)), (0, 2))]), ("twice", 2, 1))

    def test_empty(self):
        job = job_with((("chip", (1, 1), 2),), board_of(4), ())
        self.assertEqual(flaw_of(job, [lone(0, 0), lone(1, 0), lone(2, 0)]), ("empty", 2, 0))
        self.assertEqual(flaw_of(job, [lone(0, 0), (((1, 0), (2, 0)), (1, 2))]), ("empty", 1, 1))
        self.assertEqual(flaw_of(job, [(((0, 0), (1, 0)), (1, 0)), lone(2, 0)]), ("empty", 1, 0))
        none = job_with((("chip", (1, 1), 0),), board_of(4), ())
        self.assertEqual(flaw_of(none, [lone(3, 0)]), ("empty", 0, 0))

    def test_ahead_at_a_place_behind_the_picks(self):
        self.assertEqual(flaw_of(JOB, [lone(1, 1)]), ("ahead", 0, 1))
        self.assertEqual(flaw_of(JOB, [(((0, 0), (1, 1)), (1, 0))]), ("ahead", 0, 2))
        self.assertEqual(flaw_of(JOB, [(((0, 0), (3, 1)), (0, 3))]), ("ahead", 0, 3))
        self.assertEqual(flaw_of(JOB, [ONE, (((3, 1), (1, 1)), (3, 1))]), ("ahead", 1, 2))
        self.assertEqual(flaw_of(JOB, [lone(0, 0), lone(1, 1), lone(3, 1)]), ("ahead", 2, 1))
        job = put_at(JOB, 1, 4)
        self.assertEqual(flaw_of(job, [(((0, 0), (1, 1), (2, 2), (3, 1)), (0, 1, 3, 2))]), ("ahead", 0, 6))

    def test_ahead_by_several_pairs(self):
        job = put_at(JOB, 4, ((0, 1), (1, 2), (2, 3)))
        self.assertEqual(flaw_of(job, [lone(0, 0), lone(3, 1)]), ("ahead", 1, 1))
        self.assertEqual(flaw_of(job, [lone(0, 0), lone(1, 1), lone(2, 0), lone(3, 1)]), None)

    def test_the_least_trip_and_the_least_place(self):
        plan = [lone(0, 0), (((2, 0), (1, 0)), (1, 2)), lone(0, 1)]
        self.assertEqual(flaw_of(JOB, plan), ("kind", 1, 1))
        plan = [lone(1, 1), lone(0, 1)]
        self.assertEqual(flaw_of(JOB, plan), ("ahead", 0, 1))
        plan = [(((1, 1), (0, 1)), (1, 0))]
        self.assertEqual(flaw_of(JOB, plan), ("kind", 0, 1))

    def test_of_several_at_one_place_the_first_word(self):
        feeders = (("chip", (1, 1), 1), ("coil", (1, 1), 0))
        job = job_with(feeders, board_of(3), ())
        self.assertEqual(flaw_of(job, [lone(0, 0), lone(0, 1)]), ("kind", 1, 0))
        self.assertEqual(flaw_of(job, [lone(0, 0), lone(1, 1)]), ("kind", 1, 0))
        self.assertEqual(flaw_of(job, [lone(0, 0), lone(0, 0)]), ("twice", 1, 0))
        self.assertEqual(flaw_of(job, [lone(0, 0), lone(1, 0)]), ("empty", 1, 0))

    def test_the_told_thing_is_a_tuple(self):
        told = flaw_of(JOB, [lone(1, 1)])
        self.assertIsInstance(told, tuple)
        self.assertEqual(flaw_of(JOB, [lone(1, 1)]), told)

    def test_some_plans_clause_by_clause(self):
        words = []
        for seed in range(1200):
            job = some_job(seed, 3 + seed % 5, kinds=1 + seed % 3, pairs=seed % 4, heads=1 + seed % 4, most=3)
            plan = some_plan(Random(seed), job)
            flaws = all_flaws(job, plan)
            first = (flaws[0][3], flaws[0][0], flaws[0][1]) if flaws else None
            self.assertEqual(flaw_of(job, plan), first, (job, plan))
            self.assertIs(is_right(job, plan), first is None)
            words.append(first and first[0])
        for word in ["kind", "twice", "empty", "ahead", None]:
            self.assertGreater(words.count(word), 30, word)


if __name__ == "__main__":
    unittest.main()
