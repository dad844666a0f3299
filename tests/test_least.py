import copy
import unittest
from itertools import combinations, product

from pickboard.errors import NotStocked, TooMany
from pickboard.jobs import is_stocked
from pickboard.least import least_plan, least_table, shows_least, shows_table
from pickboard.plans import is_right, is_whole, plan_way
from samples import (
    BARE_JOB, GATE, JOB, ODD_THINGS, ONE, TWO, all_flaws, all_trips, board_of, closure_of, groups_of, job_with, lone,
    put_at, some_job, stocked, way_by_hand,
)


def cuts_of(parts, most):
    """All ways of cutting some parts into groups of up to most, one behind the other, in any order."""
    if not parts:
        yield []
    for size in range(1, min(most, len(parts)) + 1):
        for group in combinations(parts, size):
            for cut in cuts_of([part for part in parts if part not in group], most):
                yield [group] + cut


def least_by_trying(job, parts):
    """The least way of a right plan of just these parts, by trying all plans one by one."""
    free = put_at(job, 4, ())
    ways = []
    for cut in cuts_of(parts, job[1]):
        for plan in product(*[list(all_trips(free, group)) for group in cut]):
            if not all_flaws(job, list(plan)):
                ways.append(sum(way_by_hand(job, trip) for trip in plan))
    return min(ways)


def short_ways(job):
    """For each group of one to heads parts the least way of all its trips."""
    return {group: min(way_by_hand(job, trip) for trip in all_trips(job, group))
            for group in groups_of(len(job[3]), job[1])}


def least_by_groups(job, parts, short):
    """The least way of a right plan of just these parts, each trip of it being the shortest one of its group."""
    joined = closure_of(len(job[3]), job[4])
    ways = []
    for cut in cuts_of(parts, job[1]):
        at = {part: number for number, group in enumerate(cut) for part in group}
        if all(at[one] <= at[other] for one, other in joined if other in at):
            ways.append(sum(short[group] for group in cut))
    return min(ways)


def sets_by_trying(job):
    """All rising tuples of parts in which with each part all stand that must lie ahead of it."""
    many = len(job[3])
    joined = closure_of(many, job[4])
    return sorted(chosen for size in range(many + 1) for chosen in combinations(range(many), size)
                  if all(one in chosen for one, other in joined if other in chosen))


def small_jobs():
    for seed in range(72):
        job = some_job(seed, seed % 4, feeders=3, kinds=1 + seed // 4 % 2, heads=1 + seed % 3, pairs=seed // 8 % 3)
        yield stocked(job)


def bigger_jobs():
    for seed in range(24):
        job = some_job(seed, 4 + seed % 2, feeders=3, kinds=1 + seed % 3, heads=1 + seed // 2 % 4, pairs=seed // 4)
        yield stocked(job)


class LeastTableTest(unittest.TestCase):
    def test_by_hand(self):
        job = (GATE, 2, (("chip", (0, 0), 3),), (("chip", (10, 0)), ("chip", (0, 20)), ("chip", (30, 30))), ((2, 1),))
        self.assertEqual(least_table(job), [
            ((), 0), ((0,), 20), ((0, 1, 2), 20 + 80), ((0, 2), 10 + 30 + 30), ((1, 2), 30 + 30 + 20), ((2,), 60)])
        self.assertEqual(least_table(put_at(job, 1, 1)), [
            ((), 0), ((0,), 20), ((0, 1, 2), 120), ((0, 2), 80), ((1, 2), 100), ((2,), 60)])
        self.assertEqual(least_table(put_at(job, 1, 3))[2], ((0, 1, 2), 30 + 30 + 20 + 10))

    def test_all_sets_rising(self):
        for job in list(small_jobs()) + list(bigger_jobs()):
            self.assertEqual([row[0] for row in least_table(job)], sets_by_trying(job))

    def test_all_sets_of_eight_parts(self):
        parts = board_of(8)
        feeders = (("chip", (3, 3), 8),)
        self.assertEqual(len(least_table((GATE, 1, feeders, parts, ()))), 256)
        row = tuple((at, at + 1) for at in range(7))
        self.assertEqual([chosen for chosen, way in least_table((GATE, 4, feeders, parts, row))],
                         [tuple(range(many)) for many in range(9)])
        back = tuple((at + 1, at) for at in range(7))
        self.assertEqual([chosen for chosen, way in least_table((GATE, 4, feeders, parts, back))],
                         sorted(tuple(range(many, 8)) for many in range(9)))

    def test_against_plans_tried_one_by_one(self):
        for job in small_jobs():
            for chosen, way in least_table(job):
                self.assertEqual(way, least_by_trying(job, list(chosen)), (job, chosen))

    def test_against_cuts_into_shortest_trips(self):
        for job in bigger_jobs():
            short = short_ways(job)
            for chosen, way in least_table(job):
                self.assertEqual(way, least_by_groups(job, list(chosen), short), (job, chosen))

    def test_without_parts(self):
        self.assertEqual(least_table(BARE_JOB), [((), 0)])
        self.assertEqual(least_table(job_with(parts=(), aheads=())), [((), 0)])

    def test_kinds_of_what_is_told(self):
        told = least_table(JOB)
        self.assertIsInstance(told, list)
        for row in told:
            self.assertIsInstance(row, tuple)
            self.assertIsInstance(row[0], tuple)

    def test_told_lists_are_the_askers_own_and_the_job_stays(self):
        job = copy.deepcopy(JOB)
        told = least_table(job)
        kept = list(told)
        told.clear()
        again = least_table(job)
        self.assertEqual(again, kept)
        self.assertIsNot(least_table(job), again)
        way, plan = least_plan(job)
        kept = list(plan)
        plan.clear()
        again = least_plan(job)
        self.assertEqual(again, (way, kept))
        self.assertIsNot(least_plan(job)[1], again[1])
        self.assertEqual(job, JOB)


class LeastPlanTest(unittest.TestCase):
    def check(self, job):
        told = least_plan(job)
        self.assertIsInstance(told, tuple)
        way, plan = told
        self.assertEqual(way, dict(least_table(job))[tuple(range(len(job[3])))])
        self.assertEqual(way, sum(way_by_hand(job, trip) for trip in plan))
        self.assertIs(is_right(job, plan), True, (job, plan))
        self.assertEqual(all_flaws(job, plan), [])
        self.assertIs(is_whole(job, plan), True, (job, plan))

    def test_right_whole_and_of_the_way_in_the_table(self):
        for job in list(small_jobs()) + list(bigger_jobs()):
            self.check(job)

    def test_jobs_of_eight_parts(self):
        for seed in range(12):
            self.check(stocked(some_job(seed, 8, feeders=6, kinds=3, heads=1 + seed % 4, pairs=2 * seed, side=40)))

    def test_without_parts(self):
        self.assertEqual(least_plan(BARE_JOB), (0, []))
        self.assertEqual(least_plan(job_with(parts=(), aheads=())), (0, []))

    def test_feeders_that_just_have_enough(self):
        job = job_with((("chip", (1, 1), 2), ("diode", (1, 1), 2), ("coil", (1, 1), 0)))
        self.check(job)


class ShowsTableTest(unittest.TestCase):
    def fails(self, job, thing):
        self.assertIs(shows_table(job, thing), False, repr(thing)[:300])

    def test_what_least_table_tells(self):
        for job in list(small_jobs()) + list(bigger_jobs()) + [BARE_JOB]:
            self.assertIs(shows_table(job, least_table(job)), True)

    def test_a_number_one_more_or_less(self):
        table = least_table(JOB)
        for at, (chosen, way) in enumerate(table):
            for other in [way + 1, way - 1, -way - 1, str(way), None, (way,), [way]]:
                self.fails(JOB, table[:at] + [(chosen, other)] + table[at + 1:])

    def test_a_set_left_out_or_twice(self):
        table = least_table(JOB)
        for at, row in enumerate(table):
            self.fails(JOB, table[:at] + table[at + 1:])
            self.fails(JOB, table[:at] + [row] + table[at:])
            self.fails(JOB, table + [row])

    def test_two_exchanged(self):
        table = least_table(JOB)
        for one, other in combinations(range(len(table)), 2):
            thing = list(table)
            thing[one], thing[other] = thing[other], thing[one]
            self.fails(JOB, thing)
            thing = list(table)
            thing[one], thing[other] = (table[one][0], table[other][1]), (table[other][0], table[one][1])
            if thing != table:
                self.fails(JOB, thing)

    def test_a_set_that_is_none_and_a_set_otherwise_written(self):
        table = least_table(JOB)
        self.fails(JOB, sorted(table + [((1,), 140)]))
        self.assertIn((0, 2), dict(table))
        self.fails(JOB, [((2, 0), way) if chosen == (0, 2) else (chosen, way) for chosen, way in table])

    def test_lists_for_tuples(self):
        table = least_table(JOB)
        self.fails(JOB, tuple(table))
        for at, (chosen, way) in enumerate(table):
            for row in [[chosen, way], (list(chosen), way), (chosen, way, way), (chosen,), chosen, way, (way, chosen)]:
                self.fails(JOB, table[:at] + [row] + table[at + 1:])

    def test_true_as_a_number(self):
        feeders = (("chip", GATE, 2),)
        job = (GATE, 1, feeders, (("chip", GATE), ("chip", (1, 1))), ())
        self.assertIs(shows_table(job, [((), 0), ((0,), 0), ((0, 1), 2), ((1,), 2)]), True)
        self.fails(job, [((), False), ((0,), 0), ((0, 1), 2), ((1,), 2)])
        self.fails(job, [((), 0), ((0,), False), ((0, 1), 2), ((1,), 2)])
        self.fails(job, [((), 0), ((0,), 0), ((0, 1), 2), ((True,), 2)])
        self.fails(job, [((), 0), ((False,), 0), ((0, 1), 2), ((1,), 2)])
        self.fails(job, [((), 0), ((0,), 0), ((0, True), 2), ((1,), 2)])
        self.fails(BARE_JOB, [((), False)])

    def test_anything(self):
        table = least_table(JOB)
        for thing in ODD_THINGS:
            for tried in [thing, [thing], table + [thing], [thing] + table[1:], [((), thing)] + table[1:] if thing != 0
                          or isinstance(thing, bool) else None]:
                self.fails(JOB, tried)
                self.fails(BARE_JOB, tried)

    def test_the_table_of_another_job(self):
        self.fails(JOB, least_table(put_at(JOB, 1, 3)))
        self.fails(BARE_JOB, least_table(JOB))


class ShowsLeastTest(unittest.TestCase):
    def test_the_table_and_a_plan_of_the_least_way(self):
        for job in list(small_jobs()) + list(bigger_jobs()):
            self.assertIs(shows_least(job, least_plan(job)[1], least_table(job)), True)

    def test_all_plans_just_the_least_ones(self):
        job = (GATE, 2, (("chip", (0, 0), 3),), (("chip", (10, 0)), ("chip", (0, 20)), ("chip", (30, 30))), ((2, 1),))
        table = least_table(job)
        free = put_at(job, 4, ())
        told = []
        for parts in [[], [0], [0, 2], [1, 2], [0, 1, 2]]:
            for cut in cuts_of(parts, 2):
                for plan in product(*[list(all_trips(free, group)) for group in cut]):
                    least = len(parts) == 3 and not all_flaws(job, list(plan)) and plan_way(job, list(plan)) == 100
                    told.append(shows_least(job, list(plan), table))
                    self.assertIs(told[-1], least, plan)
        self.assertEqual(told.count(True), 4)
        self.assertGreater(told.count(False), 30)

    def test_a_longer_plan(self):
        table = least_table(JOB)
        plan = [lone(0, 0), lone(1, 1), lone(2, 0), lone(3, 1)]
        self.assertIs(is_right(JOB, plan), True)
        self.assertIs(shows_least(JOB, plan, table), False)

    def test_a_plan_that_is_not_right(self):
        feeders = (("chip", GATE, 2), ("diode", GATE, 2))
        parts = (("chip", (5, 0)), ("diode", (5, 5)))
        job = (GATE, 2, feeders, parts, ((0, 1),))
        table = least_table(job)
        right = [(((0, 0), (1, 1)), (0, 1))]
        self.assertEqual(plan_way(job, right), 15)
        self.assertIs(shows_least(job, right, table), True)
        for plan in [[(((0, 0), (1, 1)), (1, 0))], [(((0, 1), (1, 1)), (0, 1))], [(((0, 0), (1, 0)), (0, 1))]]:
            self.assertEqual(plan_way(job, plan), 15)
            self.assertIs(shows_least(job, plan, table), False)

    def test_a_part_of_no_way_laid_twice(self):
        job = (GATE, 1, (("chip", GATE, 9),), (("chip", GATE),), ())
        self.assertIs(shows_least(job, [lone(0, 0)], least_table(job)), True)
        self.assertIs(shows_least(job, [lone(0, 0), lone(0, 0)], least_table(job)), False)

    def test_a_plan_that_is_not_whole(self):
        job = (GATE, 1, (("chip", GATE, 9),), (("chip", GATE), ("chip", (4, 4))), ())
        table = least_table(job)
        self.assertIs(shows_least(job, [lone(0, 0), lone(1, 0)], table), True)
        self.assertEqual(plan_way(job, [lone(1, 0)]), plan_way(job, [lone(0, 0), lone(1, 0)]))
        for plan in [[lone(1, 0)], [lone(0, 0)], []]:
            self.assertIs(shows_least(job, plan, table), False)

    def test_a_table_that_is_none(self):
        table, plan = least_table(JOB), least_plan(JOB)[1]
        self.assertIs(shows_least(JOB, plan, table), True)
        for thing in [table[1:], table[:-1], table[::-1], tuple(table), table + table[-1:],
                      [list(row) for row in table], [(chosen, way + 1) for chosen, way in table],
                      least_table(put_at(JOB, 1, 3))] + ODD_THINGS:
            self.assertIs(shows_least(JOB, plan, thing), False, repr(thing)[:300])

    def test_a_table_that_tells_the_longer_way_of_the_plan(self):
        table = least_table(JOB)
        plan = [lone(0, 0), lone(1, 1), lone(2, 0), lone(3, 1)]
        thing = [(chosen, plan_way(JOB, plan) if len(chosen) == 4 else way) for chosen, way in table]
        self.assertIs(shows_least(JOB, plan, thing), False)

    def test_without_parts(self):
        self.assertIs(shows_least(BARE_JOB, [], [((), 0)]), True)
        self.assertIs(shows_least(BARE_JOB, [], []), False)

    def test_what_is_handed_in_stays(self):
        job, plan, table = copy.deepcopy((JOB, [ONE, TWO], least_table(JOB)))
        shows_least(job, plan, table)
        shows_table(job, table)
        self.assertEqual((job, plan, table), (JOB, [ONE, TWO], least_table(JOB)))


class RefusalsTest(unittest.TestCase):
    def refused(self, error, job):
        for ask in [lambda: least_table(job), lambda: least_plan(job), lambda: shows_table(job, [((), 0)]),
                    lambda: shows_table(job, None), lambda: shows_least(job, [], [((), 0)]),
                    lambda: shows_least(job, [lone(0, 0)], None)]:
            with self.assertRaises(error) as caught:
                ask()
            self.assertIs(caught.exception.__class__, error)

    def job_of(self, many, stock):
        return (GATE, 2, (("chip", (1, 1), stock),), board_of(many), ())

    def test_a_job_that_is_not_stocked(self):
        self.refused(NotStocked, self.job_of(3, 2))
        self.refused(NotStocked, self.job_of(8, 7))
        self.refused(NotStocked, job_with((("chip", (1, 1), 400), ("diode", (1, 1), 2), ("chip", (1, 1), 1))))

    def test_a_job_of_nine_parts(self):
        for many in [9, 10, 60]:
            self.refused(TooMany, self.job_of(many, many))

    def test_one_of_both(self):
        for many in [9, 10, 60]:
            self.refused(NotStocked, self.job_of(many, many - 1))

    def test_eight_parts_are_let(self):
        job = self.job_of(8, 8)
        self.assertTrue(is_stocked(job))
        table = least_table(job)
        way, plan = least_plan(job)
        self.assertIs(shows_table(job, table), True)
        self.assertIs(shows_least(job, plan, table), True)
        self.assertEqual(table[8], (tuple(range(8)), way))


if __name__ == "__main__":
    unittest.main()
