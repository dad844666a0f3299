import copy
import unittest
from random import Random

from pickboard.jobs import is_job
from pickboard.mending import mended_plan, restocked_job
from pickboard.plans import is_right, order_of
from samples import (
    BARE_JOB, FEEDERS, FREE_JOB, GATE, JOB, ONE, PARTS, TWO, closure_of, job_with, lists_in, lone, put_at, right_plan,
    some_job, stocked,
)

PLAN = [ONE, TWO]
CHIPS = tuple(("chip", (at, 9)) for at in range(6))


def chip_job(stock, aheads=(), heads=2, parts=CHIPS):
    """A job of chips alone, with a feeder for each number of the stock."""
    feeders = tuple(("chip", (at, 0), many) for at, many in enumerate(stock))
    return (GATE, heads, feeders, parts, aheads)


def mended_by_hand(job, plan, stock):
    """What mended_plan should tell, by going through its clauses one by one."""
    joined = closure_of(len(job[3]), job[4])
    picks = [(trip, place, part, feeder) for trip, (row, lays) in enumerate(plan)
             for place, (part, feeder) in enumerate(row)]
    stay = {}
    for at, many in enumerate(stock):
        for trip, place, part, feeder in [pick for pick in picks if pick[3] == at][:many]:
            stay[part] = feeder
    room = {at: many - list(stay.values()).count(at) for at, many in enumerate(stock)}
    source, wanting = dict(stay), set()
    for trip, place, part, feeder in picks:
        if part not in stay:
            for at, row in enumerate(job[2]):
                if row[0] == job[3][part][0] and room[at] > 0:
                    room[at] -= 1
                    source[part] = at
                    break
            else:
                wanting.add(part)
    dropped = {pick[2] for pick in picks if any(one in wanting and other == pick[2] for one, other in joined)} | wanting
    mended = []
    for row, lays in plan:
        kept = tuple((part, source[part]) for part, feeder in row if part not in dropped)
        if kept:
            mended.append((kept, tuple(part for part in lays if part not in dropped)))
    moved = sorted(part for trip, place, part, feeder in picks if part not in dropped and source[part] != feeder)
    return (mended, moved, sorted(dropped))


def some_mendings():
    """Jobs with right plans and another stock."""
    for seed in range(400):
        chance = Random(seed)
        job = some_job(seed, seed % 13, feeders=5, kinds=1 + seed % 3, heads=1 + seed // 3 % 4, pairs=seed % 5,
                       most=3 + seed % 5)
        yield job, right_plan(chance, job), [chance.randint(0, seed % 6) for feeder in job[2]]


class MendedPlanTest(unittest.TestCase):
    def check(self, job, plan, stock, mended, moved, dropped):
        self.assertIs(is_job(job), True)
        self.assertIs(is_right(job, plan), True)
        told = mended_plan(job, plan, stock)
        self.assertIsInstance(told, tuple)
        self.assertEqual(told, (mended, moved, dropped))
        self.assertEqual(told, mended_by_hand(job, plan, stock))
        self.assertIs(is_right(restocked_job(job, stock), told[0]), True)

    def test_a_stock_that_suffices(self):
        for stock in [[1, 2, 1, 0], [3, 2, 2, 1], [400, 400, 400, 400]]:
            self.check(JOB, PLAN, stock, PLAN, [], [])
            self.check(JOB, [ONE], stock, [ONE], [], [])
            self.check(JOB, [], stock, [], [], [])

    def test_a_pick_moved_to_another_feeder(self):
        self.check(JOB, PLAN, [2, 2, 0, 0], [(((2, 0), (0, 0)), (0, 2)), TWO], [2], [])
        self.check(JOB, PLAN, [0, 2, 2, 0], [(((2, 2), (0, 2)), (0, 2)), TWO], [0], [])

    def test_the_first_picks_of_a_feeder_stay(self):
        job = chip_job([4, 9])
        plan = [(((3, 0), (1, 0)), (1, 3)), (((0, 0), (2, 0)), (0, 2))]
        self.check(job, plan, [1, 9], [(((3, 0), (1, 1)), (1, 3)), (((0, 1), (2, 1)), (0, 2))], [0, 1, 2], [])
        self.check(job, plan, [2, 9], [(((3, 0), (1, 0)), (1, 3)), (((0, 1), (2, 1)), (0, 2))], [0, 2], [])
        self.check(job, plan, [3, 9], [(((3, 0), (1, 0)), (1, 3)), (((0, 0), (2, 1)), (0, 2))], [2], [])
        self.check(job, plan, [0, 9], [(((3, 1), (1, 1)), (1, 3)), (((0, 1), (2, 1)), (0, 2))], [0, 1, 2, 3], [])

    def test_to_the_least_feeder_that_has_room(self):
        job = chip_job([2, 2, 3, 2])
        plan = [lone(0, 2), lone(1, 2), lone(2, 2), lone(3, 1)]
        # Feeder 1 has room for one behind its own pick, feeder 0 for one.
        self.check(job, plan, [1, 2, 0, 9], [lone(0, 0), lone(1, 1), lone(2, 3), lone(3, 1)], [0, 1, 2], [])
        self.check(job, plan, [0, 1, 0, 9], [lone(0, 3), lone(1, 3), lone(2, 3), lone(3, 1)], [0, 1, 2], [])
        self.check(job, plan, [1, 3, 1, 0], [lone(0, 2), lone(1, 0), lone(2, 1), lone(3, 1)], [1, 2], [])

    def test_feeders_of_other_kinds_do_not_help(self):
        self.check(FREE_JOB, [lone(1, 1), lone(0, 0)], [1, 0, 400, 400], [lone(0, 0)], [], [1])

    def test_one_that_must_stay_later_is_not_pushed_out(self):
        job = chip_job([1, 2])
        plan = [lone(0, 0), lone(1, 1), lone(2, 1)]
        self.check(job, plan, [0, 2], [lone(1, 1), lone(2, 1)], [], [0])
        self.check(job, plan, [0, 3], [lone(0, 1), lone(1, 1), lone(2, 1)], [0], [])
        self.check(job, plan, [0, 1], [lone(1, 1)], [], [0, 2])
        self.check(chip_job([3, 2]), [lone(0, 1), lone(1, 0), lone(2, 0)], [2, 0], [lone(1, 0), lone(2, 0)], [], [0])

    def test_dropped_for_want_in_the_order_of_picks(self):
        job = chip_job([4])
        plan = [(((3, 0), (1, 0)), (1, 3)), (((0, 0), (2, 0)), (0, 2))]
        self.check(job, plan, [3], [plan[0], lone(0, 0)], [], [2])
        self.check(job, plan, [1], [lone(3, 0)], [], [0, 1, 2])
        self.check(job, plan, [0], [], [], [0, 1, 2, 3])

    def test_dropped_behind_one_that_is_dropped(self):
        job = job_with(aheads=((0, 1), (1, 3)))
        plan = [lone(0, 0), lone(1, 1), lone(2, 2), lone(3, 1)]
        # Part 3 lies behind part 0 by way of part 1.
        self.check(job, plan, [0, 2, 1, 0], [lone(2, 2)], [], [0, 1, 3])
        self.check(job, plan, [0, 1, 1, 0], [lone(2, 2)], [], [0, 1, 3])
        self.check(job, plan, [1, 1, 1, 0], [lone(0, 0), lone(1, 1), lone(2, 2)], [], [3])
        self.check(job, plan, [1, 0, 1, 0], [lone(0, 0), lone(2, 2)], [], [1, 3])

    def test_those_ahead_of_one_that_is_dropped_stay(self):
        job = job_with(aheads=((0, 2), (0, 1)))
        self.check(job, [lone(0, 0), lone(1, 1), lone(2, 2)], [1, 1, 0, 0], [lone(0, 0), lone(1, 1)], [], [2])

    def test_what_they_would_have_picked_is_not_given_to_others(self):
        # Part 0 is dropped for want of coils, part 1 behind it; part 2 could have had part 1's chip.
        feeders = (("coil", (1, 0), 1), ("chip", (2, 0), 2), ("chip", (3, 0), 1))
        parts = (("coil", (0, 9)), ("chip", (1, 9)), ("chip", (2, 9)), ("chip", (3, 9)))
        job = (GATE, 3, feeders, parts, ((0, 1),))
        plan = [lone(0, 0), lone(1, 1), lone(2, 1), lone(3, 2)]
        self.check(job, plan, [0, 1, 1], [lone(3, 2)], [], [0, 1, 2])
        self.check(job, plan, [0, 1, 2], [lone(2, 2), lone(3, 2)], [2], [0, 1])
        plan = [lone(0, 0), lone(1, 2), lone(2, 1), lone(3, 1)]
        self.check(job, plan, [0, 2, 0], [lone(2, 1), lone(3, 1)], [], [0, 1])
        self.check(job, plan, [0, 1, 1], [lone(2, 1)], [], [0, 1, 3])

    def test_what_was_moved_and_then_dropped_is_not_given_to_others(self):
        feeders = (("coil", (1, 0), 1), ("chip", (2, 0), 2), ("chip", (3, 0), 1), ("chip", (4, 0), 1))
        parts = (("coil", (0, 9)), ("chip", (1, 9)), ("chip", (2, 9)), ("chip", (3, 9)))
        job = (GATE, 3, feeders, parts, ((0, 1),))
        plan = [lone(0, 0), lone(1, 1), lone(2, 1), lone(3, 2)]
        # Part 1 moves to feeder 3 ahead of part 2.
        self.check(job, plan, [0, 0, 1, 1], [lone(3, 2)], [], [0, 1, 2])
        self.check(job, plan, [1, 0, 1, 1], [lone(0, 0), lone(1, 3), lone(3, 2)], [1], [2])
        self.check(job, plan, [0, 0, 1, 2], [lone(2, 3), lone(3, 2)], [2], [0, 1])

    def test_moved_holds_none_that_was_dropped(self):
        feeders = (("coil", (1, 0), 1), ("chip", (2, 0), 1), ("chip", (3, 0), 1))
        job = (GATE, 1, feeders, (("coil", (0, 9)), ("chip", (1, 9))), ((0, 1),))
        self.check(job, [lone(0, 0), lone(1, 1)], [0, 0, 1], [], [], [0, 1])
        self.check(job, [lone(0, 0), lone(1, 1)], [1, 0, 1], [lone(0, 0), lone(1, 2)], [1], [])

    def test_picks_and_lays_stay_in_their_order(self):
        job = chip_job([9, 9], heads=4)
        plan = [(((4, 0), (2, 1), (5, 0), (0, 1)), (5, 0, 4, 2)), (((3, 1), (1, 1)), (3, 1))]
        self.check(job, plan, [1, 2], [(((4, 0), (2, 1), (0, 1)), (0, 4, 2))], [], [1, 3, 5])
        self.check(job, plan, [0, 4], [(((2, 1), (0, 1)), (0, 2)), plan[1]], [], [4, 5])
        self.check(job, plan, [0, 5], [(((4, 1), (2, 1), (0, 1)), (0, 4, 2)), plan[1]], [4], [5])

    def test_trips_without_parts_are_left_out(self):
        job = chip_job([9, 9])
        plan = [lone(0, 0), lone(1, 1), (((2, 0), (3, 0)), (2, 3)), lone(4, 1)]
        self.check(job, plan, [0, 2], [lone(1, 1), lone(4, 1)], [], [0, 2, 3])
        self.check(job, plan, [1, 0], [lone(0, 0)], [], [1, 2, 3, 4])

    def test_moved_and_dropped_rise(self):
        job = chip_job([9, 9])
        plan = [lone(5, 0), lone(4, 0), lone(3, 0), lone(2, 0), lone(1, 0), lone(0, 0)]
        self.check(job, plan, [1, 3], [lone(5, 0), lone(4, 1), lone(3, 1), lone(2, 1)], [2, 3, 4], [0, 1])

    def test_parts_that_are_not_in_the_plan_do_not_matter(self):
        job = chip_job([9, 0], aheads=((0, 1), (0, 2)))
        self.check(job, [lone(0, 0), lone(1, 0)], [0, 0], [], [], [0, 1])
        self.check(job, [lone(3, 0)], [0, 2], [lone(3, 1)], [3], [])

    def test_some_plans_reckoned_otherwise(self):
        many_moved = many_dropped = 0
        for job, plan, stock in some_mendings():
            told = mended_plan(job, plan, stock)
            self.assertEqual(told, mended_by_hand(job, plan, stock), (job, plan, stock))
            self.assertIs(is_right(restocked_job(job, stock), told[0]), True)
            self.assertEqual(sorted(order_of(told[0]) + told[2]), sorted(order_of(plan)))
            many_moved += len(told[1])
            many_dropped += len(told[2])
        self.assertGreater(min(many_moved, many_dropped), 100)

    def test_no_pick_that_could_stay_is_changed(self):
        for job, plan, stock in some_mendings():
            mended, moved, dropped = mended_plan(put_at(job, 4, ()), plan, stock)
            old = [pick for row in plan for pick in row[0]]
            new = [pick for row in mended for pick in row[0]]
            for feeder, many in enumerate(stock):
                own = [pick for pick in old if pick[1] == feeder]
                self.assertEqual([pick for pick in new if pick in own], own[:many])

    def test_as_few_as_can_be_are_dropped_for_want(self):
        for job, plan, stock in some_mendings():
            mended, moved, dropped = mended_plan(put_at(job, 4, ()), plan, stock)
            for kind in {row[0] for row in job[2]}:
                have = sum(many for many, row in zip(stock, job[2]) if row[0] == kind)
                wanted = sum(1 for part in order_of(plan) if job[3][part][0] == kind)
                self.assertEqual(sum(1 for part in dropped if job[3][part][0] == kind), max(0, wanted - have))

    def test_sixty_parts(self):
        job = stocked(some_job(3, 60, feeders=20, kinds=4, heads=4, pairs=100, side=30))
        plan = right_plan(Random(3), job, whole=True)
        for most in [1, 3, 6]:
            stock = [Random(at).randint(0, most) for at in range(20)]
            told = mended_plan(job, plan, stock)
            self.assertEqual(told, mended_by_hand(job, plan, stock))
            self.assertIs(is_right(restocked_job(job, stock), told[0]), True)

    def test_what_was_mended_may_be_mended_again(self):
        for job, plan, stock in some_mendings():
            mended = mended_plan(job, plan, stock)[0]
            self.assertEqual(mended_plan(restocked_job(job, stock), mended, stock), (mended, [], []))

    def test_all_stays_and_what_is_told_is_the_askers_own(self):
        for stock in [[0, 1, 1, 0], [9, 9, 9, 9]]:
            job, plan, have = copy.deepcopy(JOB), copy.deepcopy(PLAN), list(stock)
            told = mended_plan(job, plan, have)
            again = copy.deepcopy(told)
            self.assertEqual(len({id(one) for one in lists_in(told)}), 3)
            self.assertIsNot(told[0], plan)
            for one in lists_in(told):
                one.append(5)
            self.assertEqual((job, plan, have), (JOB, PLAN, stock))
            self.assertEqual(mended_plan(job, plan, have), again)


class RestockedJobTest(unittest.TestCase):
    def test_just_these_numbers_and_all_else_as_it_was(self):
        told = restocked_job(JOB, [0, 400, 7, 1])
        self.assertEqual(told, (GATE, 2, (("chip", (10, 0), 0), ("diode", (20, 0), 400), ("chip", (30, 0), 7),
                                          ("coil", (40, 0), 1)), PARTS, JOB[4]))
        self.assertIs(is_job(told), True)

    def test_the_same_stock_and_no_feeders(self):
        self.assertEqual(restocked_job(JOB, [row[2] for row in FEEDERS]), JOB)
        self.assertEqual(restocked_job(BARE_JOB, []), BARE_JOB)

    def test_some_jobs(self):
        for job, plan, stock in some_mendings():
            told = restocked_job(job, stock)
            self.assertIs(is_job(told), True)
            self.assertEqual([row[2] for row in told[2]], stock)
            self.assertEqual([row[:2] for row in told[2]], [row[:2] for row in job[2]])
            self.assertEqual(put_at(told, 2, job[2]), job)

    def test_all_stays(self):
        job, stock = copy.deepcopy(JOB), [1, 2, 3, 4]
        restocked_job(job, stock)
        self.assertEqual((job, stock), (JOB, [1, 2, 3, 4]))


if __name__ == "__main__":
    unittest.main()
