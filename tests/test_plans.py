import copy
import unittest
from random import Random

from pickboard.flaws import flaw_of
from pickboard.plans import is_right, is_whole, left_in, order_of, plan_way, stops_of, trip_way
from samples import (
    BARE_JOB, FEEDERS, FREE_JOB, GATE, JOB, ODD_THINGS, ONE, PARTS, TWO, all_flaws, board_of, job_with, lone, put_at,
    some_job, some_plan, way_by_hand,
)

PLAN = [ONE, TWO]


class StopsAndWaysTest(unittest.TestCase):
    def test_stops_in_the_order_of_picks_and_lays(self):
        self.assertEqual(stops_of(JOB, ONE), [(0, 0), (30, 0), (10, 0), (5, 50), (25, 70), (0, 0)])
        self.assertEqual(stops_of(JOB, TWO), [(0, 0), (20, 0), (20, 0), (15, 60), (35, 80), (0, 0)])
        turned = (ONE[0][::-1], ONE[1][::-1])
        self.assertEqual(stops_of(JOB, turned), [(0, 0), (10, 0), (30, 0), (25, 70), (5, 50), (0, 0)])

    def test_stops_of_one_part_from_any_feeder(self):
        job = put_at(JOB, 0, (7, 8))
        self.assertEqual(stops_of(job, lone(3, 3)), [(7, 8), (40, 0), (35, 80), (7, 8)])
        self.assertEqual(stops_of(job, lone(0, 2)), [(7, 8), (30, 0), (5, 50), (7, 8)])

    def test_stops_of_four_parts(self):
        trip = (((1, 0), (0, 3), (3, 1), (2, 2)), (3, 1, 0, 2))
        self.assertEqual(stops_of(put_at(JOB, 1, 4), trip), [
            (0, 0), (10, 0), (40, 0), (20, 0), (30, 0), (35, 80), (15, 60), (5, 50), (25, 70), (0, 0)])

    def test_trip_way_by_hand(self):
        self.assertEqual(trip_way(JOB, ONE), 30 + 20 + 50 + 20 + 70)
        self.assertEqual(trip_way(JOB, TWO), 20 + 0 + 60 + 20 + 80)
        self.assertEqual(trip_way(JOB, lone(3, 3)), 40 + 80 + 80)
        self.assertEqual(trip_way(JOB, (ONE[0], ONE[1][::-1])), 30 + 20 + 70 + 20 + 50)

    def test_trip_way_of_one_place(self):
        job = ((5, 5), 1, (("chip", (5, 5), 1),), (("chip", (5, 5)),), ())
        self.assertEqual(trip_way(job, lone(0, 0)), 0)

    def test_plan_way(self):
        self.assertEqual(plan_way(JOB, []), 0)
        self.assertEqual(plan_way(BARE_JOB, []), 0)
        self.assertEqual(plan_way(JOB, [ONE]), 190)
        self.assertEqual(plan_way(JOB, PLAN), 190 + 180)
        self.assertEqual(plan_way(JOB, [TWO, ONE, TWO]), 190 + 180 + 180)

    def test_ways_of_some_plans(self):
        for seed in range(60):
            job = some_job(seed, 6)
            plan = some_plan(Random(seed), job)
            self.assertEqual([trip_way(job, trip) for trip in plan], [way_by_hand(job, trip) for trip in plan])
            self.assertEqual(plan_way(job, plan), sum(way_by_hand(job, trip) for trip in plan))


class OrderAndLeftTest(unittest.TestCase):
    def test_order(self):
        self.assertEqual(order_of([]), [])
        self.assertEqual(order_of(PLAN), [0, 2, 1, 3])
        self.assertEqual(order_of(PLAN[::-1]), [1, 3, 0, 2])
        self.assertEqual(order_of([lone(3, 1), ONE, lone(3, 1)]), [3, 0, 2, 3])

    def test_order_is_that_of_lays_not_of_picks(self):
        self.assertEqual(order_of([(((0, 0), (1, 1), (2, 2)), (2, 0, 1))]), [2, 0, 1])

    def test_left_in_a_plan_without_trips(self):
        self.assertEqual(left_in(JOB, []), [3, 2, 2, 1])
        self.assertEqual(left_in(BARE_JOB, []), [])

    def test_left_behind_all_picks(self):
        self.assertEqual(left_in(JOB, PLAN), [2, 0, 1, 1])
        self.assertEqual(left_in(JOB, [ONE]), [2, 2, 1, 1])
        self.assertEqual(left_in(JOB, [lone(0, 3)]), [3, 2, 2, 0])

    def test_left_below_nought(self):
        self.assertEqual(left_in(JOB, [lone(0, 3), lone(1, 3), lone(2, 3)]), [3, 2, 2, -2])
        self.assertEqual(left_in(JOB, [TWO, TWO]), [3, -2, 2, 1])
        job = job_with(feeders=(("chip", (1, 1), 0), ("diode", (1, 1), 400)))
        self.assertEqual(left_in(job, [lone(0, 0), lone(1, 1)]), [-1, 399])

    def test_whole(self):
        self.assertIs(is_whole(JOB, PLAN), True)
        self.assertIs(is_whole(JOB, PLAN[::-1]), True)
        self.assertIs(is_whole(JOB, PLAN + [ONE]), True)
        self.assertIs(is_whole(JOB, [lone(part, 3) for part in [3, 1, 0, 2]]), True)

    def test_not_whole(self):
        self.assertIs(is_whole(JOB, []), False)
        self.assertIs(is_whole(JOB, [ONE]), False)
        self.assertIs(is_whole(JOB, [TWO]), False)
        self.assertIs(is_whole(JOB, [ONE, ONE]), False)
        for left in range(4):
            trips = [lone(part, 0) for part in range(4) if part != left]
            self.assertIs(is_whole(JOB, trips), False)
            self.assertIs(is_whole(JOB, trips + trips), False)

    def test_whole_of_a_job_without_parts(self):
        self.assertIs(is_whole(BARE_JOB, []), True)
        self.assertIs(is_whole(job_with(parts=(), aheads=()), []), True)

    def test_whole_of_sixty_parts(self):
        job = job_with(parts=board_of(60), aheads=())
        plan = [lone(part, 0) for part in range(60)]
        self.assertIs(is_whole(job, plan), True)
        self.assertIs(is_whole(job, plan[1:]), False)
        self.assertIs(is_whole(job, plan[:-1]), False)


class OwnListsTest(unittest.TestCase):
    def test_told_lists_are_the_askers_own(self):
        for ask in [lambda: stops_of(JOB, ONE), lambda: order_of(PLAN), lambda: left_in(JOB, PLAN),
                    lambda: left_in(JOB, []), lambda: order_of([])]:
            told = ask()
            self.assertIsInstance(told, list)
            kept = list(told)
            told.append(9)
            again = ask()
            self.assertEqual(again, kept)
            self.assertIsNot(ask(), again)

    def test_stops_are_tuples(self):
        for place in stops_of(JOB, ONE):
            self.assertIsInstance(place, tuple)

    def test_job_and_plan_stay(self):
        job, plan = copy.deepcopy((JOB, PLAN))
        for ask in [plan_way, left_in, is_right, is_whole, flaw_of]:
            ask(job, plan)
            ask(job, plan + [ONE])
        order_of(plan)
        for trip in plan:
            stops_of(job, trip)
            trip_way(job, trip)
        self.assertEqual((job, plan), (JOB, [ONE, TWO]))
        self.assertEqual(job, (GATE, 2, FEEDERS, PARTS, ((0, 1), (1, 3), (2, 3))))


class IsRightTest(unittest.TestCase):
    def holds(self, thing, job=JOB):
        self.assertIs(is_right(job, thing), True, repr(thing)[:300])

    def fails(self, thing, job=JOB):
        self.assertIs(is_right(job, thing), False, repr(thing)[:300])

    def test_right_plans_whole_or_not(self):
        self.holds(PLAN)
        self.holds([ONE])
        self.holds([lone(2, 0)])
        self.holds([lone(0, 2), lone(1, 1)])
        self.holds([lone(2, 2), lone(0, 2), lone(1, 1), lone(3, 1)])

    def test_the_empty_list(self):
        self.holds([])
        self.holds([], BARE_JOB)

    def test_a_feeder_of_another_kind(self):
        self.holds([lone(0, 0)], FREE_JOB)
        self.holds([lone(0, 2)], FREE_JOB)
        self.fails([lone(0, 1)], FREE_JOB)
        self.fails([lone(0, 3)], FREE_JOB)
        self.fails([ONE, (((1, 0), (3, 1)), (1, 3))])
        self.fails([ONE, (((1, 1), (3, 2)), (1, 3))])

    def test_a_part_in_two_trips(self):
        self.fails([lone(0, 0), lone(0, 2)], FREE_JOB)
        self.fails([lone(0, 0), lone(0, 0)], FREE_JOB)
        self.fails([lone(0, 0), lone(1, 1), (((2, 2), (0, 0)), (2, 0))], FREE_JOB)
        self.fails(PLAN + [lone(0, 0)])

    def test_a_feeder_picked_from_once_more_than_it_has(self):
        for many, right in [(2, False), (3, True), (4, True)]:
            job = job_with((("chip", (1, 1), many),), board_of(3), ())
            plan = [(((0, 0), (2, 0)), (0, 2)), lone(1, 0)]
            self.assertIs(is_right(job, plan), right)
            self.assertIs(is_right(job, plan[::-1]), right)
            self.assertIs(is_right(job, [lone(part, 0) for part in range(3)]), right)
        job = job_with((("chip", (1, 1), 1),), board_of(3), ())
        self.fails([(((0, 0), (2, 0)), (0, 2))], job)
        self.holds([lone(1, 0)], job)

    def test_an_empty_feeder(self):
        job = job_with((("chip", (1, 1), 0), ("chip", (1, 1), 1)), board_of(1), ())
        self.fails([lone(0, 0)], job)
        self.holds([lone(0, 1)], job)

    def test_ahead_in_one_trip(self):
        self.holds([(((0, 0), (1, 1)), (0, 1))])
        self.fails([(((0, 0), (1, 1)), (1, 0))])
        self.holds([(((1, 1), (0, 0)), (0, 1))])
        self.fails([(((1, 1), (0, 0)), (1, 0))])

    def test_ahead_over_two_trips(self):
        self.holds([lone(0, 0), lone(1, 1)])
        self.fails([lone(1, 1), lone(0, 0)])
        self.fails(PLAN[::-1])

    def test_ahead_by_several_pairs(self):
        job = put_at(JOB, 4, ((0, 1), (1, 2), (2, 3)))
        right = [lone(0, 0), lone(1, 1), lone(2, 2), lone(3, 1)]
        self.holds(right, job)
        for order in [[0, 1, 3, 2], [1, 0, 2, 3], [0, 2, 1, 3], [3, 0, 1, 2], [0, 3], [0, 2], [0, 1, 3], [3]]:
            self.fails([right[part] for part in order], job)
        for many in range(4):
            self.holds(right[:many], job)
        self.fails([(((0, 0), (3, 1)), (0, 3))], job)

    def test_one_that_must_lie_ahead_left_out(self):
        self.fails([lone(1, 1)])
        self.fails([lone(3, 1)])
        self.fails([lone(0, 0), lone(1, 1), lone(3, 1)])
        self.fails([lone(2, 0), lone(0, 0), lone(3, 1)])

    def test_a_trip_that_is_none(self):
        for trip in [(((0, 0), (0, 2)), (0, 0)), ((), ()), (((0, 0),), (2,)), list(ONE), (((0, 4),), (0,)),
                     (((4, 0),), (4,)), (((0, False),), (0,)), (((0, 0),), (False,)),
                     (((0, 0), (1, 1), (2, 2)), (0, 1, 2))]:
            self.fails([trip])
            self.fails([ONE, TWO, trip])
            self.fails([trip] + PLAN)

    def test_a_tuple_for_the_list(self):
        self.fails(())
        self.fails(tuple(PLAN))
        self.fails((ONE,))
        self.fails(ONE)
        self.fails([PLAN])
        self.fails([[]])

    def test_anything(self):
        for thing in ODD_THINGS:
            if thing != []:
                self.fails(thing)
            self.fails([thing])
            self.fails([ONE, thing])
            self.fails((thing, thing))

    def test_a_plan_as_long_as_anything_may_be(self):
        self.fails([lone(0, 0)] * 2800)
        self.fails([lone(at % 60, at % 20) for at in range(2800)],
                   (GATE, 1, tuple(("chip", (at, 0), 400) for at in range(20)), board_of(60), ()))

    def test_some_plans_clause_by_clause(self):
        told = []
        for seed in range(600):
            job = some_job(seed, 3 + seed % 4, kinds=1 + seed % 3, pairs=seed % 4, heads=1 + seed % 4)
            plan = some_plan(Random(seed), job)
            told.append(is_right(job, plan))
            self.assertIs(told[-1], not all_flaws(job, plan), (job, plan))
        self.assertGreater(told.count(True), 60)
        self.assertGreater(told.count(False), 60)


if __name__ == "__main__":
    unittest.main()
