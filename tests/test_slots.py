import copy
import unittest
from itertools import permutations
from random import Random

from pickboard.jobs import is_job, is_stocked, wanted_of
from pickboard.slots import matched_slots, paper_for, placed_feeders, shows_matched, shows_paper, slot_costs
from samples import (
    BARE_JOB, FEEDERS, GATE, JOB, ODD_THINGS, board_of, far, job_with, lists_in, otherwise, put_at, some_job,
)

COSTS = [[4, 1, 4], [2, 0, 5]]
PAPER = ([3, 2], [0, -2, 0])


def least_by_trying(costs):
    """The least sum of all matchings, tried one by one."""
    many = len(costs[0]) if costs else 0
    return min(sum(row[column] for row, column in zip(costs, columns))
               for columns in permutations(range(many), len(costs)))


def some_costs(seed, rows, columns, most):
    chance = Random(seed)
    return [[chance.randint(0, most) for column in range(columns)] for row in range(rows)]


def small_costs():
    """Costs of none to five rows, as wide and wider, of few unlike numbers and of many."""
    for seed in range(240):
        rows = seed % 6
        yield some_costs(seed, rows, rows + seed // 6 % 3, [0, 1, 3, 9, 100, 10 ** 6][seed // 18 % 6])


def great_costs():
    """Costs of twelve rows and as many columns, or of fewer rows."""
    for seed in range(24):
        yield some_costs(seed, [12, 12, 7, 11][seed % 4], 12, [1, 2, 1000, 10 ** 6][seed // 4 % 4])
    yield [[0] * 12 for row in range(12)]
    yield [[10 ** 6] * 12 for row in range(12)]
    yield [[row * column for column in range(12)] for row in range(12)]
    yield [[(row + 1) * (column + 1) * 6000 for column in range(12)][::-1] for row in range(12)]


def least_by_sets(costs):
    """The least sum, row by row, keeping for each set of columns the least sum that fills it."""
    best = {0: 0}
    for row in costs:
        found = {}
        for used, total in best.items():
            for column, cost in enumerate(row):
                if not used >> column & 1:
                    key = used | 1 << column
                    found[key] = min(found.get(key, total + cost), total + cost)
        best = found
    return min(best.values())


class MatchedSlotsTest(unittest.TestCase):
    def check(self, costs, least):
        told = matched_slots(costs)
        self.assertIsInstance(told, tuple)
        total, columns = told
        self.assertIsInstance(columns, list)
        self.assertEqual(len(columns), len(costs))
        self.assertEqual(len(set(columns)), len(columns))
        for column in columns:
            self.assertIs(column.__class__, int)
            self.assertIn(column, range(len(costs[0])))
        self.assertEqual(total, sum(row[column] for row, column in zip(costs, columns)), costs)
        self.assertEqual(total, least, costs)

    def test_by_hand(self):
        self.assertEqual(matched_slots([[7]]), (7, [0]))
        self.assertEqual(matched_slots([[7, 5, 6]]), (5, [1]))
        self.assertEqual(matched_slots([[1, 2], [1, 9]]), (3, [1, 0]))
        self.assertEqual(matched_slots([[1, 2, 8], [1, 9, 9], [9, 1, 8]]), (10, [2, 0, 1]))
        self.assertEqual(matched_slots([[0, 5], [3, 5]]), (5, [0, 1]))
        self.assertEqual(matched_slots(COSTS), (3, [1, 0]))

    def test_of_no_rows(self):
        self.assertEqual(matched_slots([]), (0, []))

    def test_against_all_matchings(self):
        for costs in small_costs():
            self.check(costs, least_by_trying(costs))
            self.assertEqual(least_by_sets(costs), least_by_trying(costs))

    def test_twelve_rows_and_columns(self):
        for costs in great_costs():
            self.check(costs, least_by_sets(costs))

    def test_costs_stay_and_what_is_told_is_the_askers_own(self):
        for costs in [copy.deepcopy(COSTS), some_costs(5, 12, 12, 10 ** 6)]:
            kept = copy.deepcopy(costs)
            total, columns = matched_slots(costs)
            self.assertEqual(costs, kept)
            again = list(columns)
            columns.append(99)
            self.assertEqual(matched_slots(costs), (total, again))
            self.assertEqual(costs, kept)


class PaperForTest(unittest.TestCase):
    def check(self, costs, least):
        told = paper_for(costs)
        self.assertIsInstance(told, tuple)
        rows, columns = told
        self.assertIsInstance(rows, list)
        self.assertIsInstance(columns, list)
        self.assertEqual(len(rows), len(costs))
        self.assertEqual(len(columns), len(costs[0]) if costs else 0)
        for number in rows + columns:
            self.assertIs(number.__class__, int)
        for number in columns:
            self.assertLessEqual(number, 0)
        for row, one in zip(costs, rows):
            for cost, other in zip(row, columns):
                self.assertLessEqual(one + other, cost, (costs, told))
        self.assertEqual(sum(rows) + sum(columns), least, (costs, told))
        self.assertIs(shows_paper(costs, told), True)
        self.assertIs(shows_matched(costs, matched_slots(costs)[1], told), True)

    def test_of_no_rows(self):
        self.assertEqual(paper_for([]), ([], []))

    def test_small_costs(self):
        for costs in small_costs():
            self.check(costs, least_by_trying(costs))

    def test_twelve_rows_and_columns(self):
        for costs in great_costs():
            self.check(costs, least_by_sets(costs))

    def test_costs_stay_and_both_lists_are_the_askers_own(self):
        for costs in [[], [[3]], copy.deepcopy(COSTS), some_costs(3, 5, 5, 9)]:
            kept = copy.deepcopy(costs)
            told = paper_for(costs)
            again = copy.deepcopy(told)
            self.assertIsNot(told[0], told[1])
            told[0].append(5)
            self.assertEqual(told[1], again[1])
            told[1].append(6)
            self.assertEqual(paper_for(costs), again)
            self.assertEqual(costs, kept)


class ShowsPaperTest(unittest.TestCase):
    def test_papers_that_keep_to_the_clauses(self):
        for paper in [PAPER, ([1, 0], [0, 0, 0]), ([0, 0], [0, 0, 0]), ([-5, -7], [0, 0, 0]), ([3, 2], [0, -2, -9]),
                      ([4, 2], [0, -3, -1]), ([-(10 ** 40), 0], [0, 0, -(10 ** 40)]), ([10, -3], [-6, -9, -7])]:
            self.assertIs(shows_paper(COSTS, paper), True, paper)

    def test_a_columns_number_above_0(self):
        for at in range(3):
            columns = [-9, -9, -9]
            columns[at] = 1
            self.assertIs(shows_paper(COSTS, ([-9, -9], columns)), False)
            columns[at] = 0
            self.assertIs(shows_paper(COSTS, ([-9, -9], columns)), True)

    def test_one_above_what_stands_there(self):
        for row in range(2):
            for column in range(3):
                rows, columns = [-99, -99], [-50, -50, -50]
                rows[row] = COSTS[row][column]
                columns[column] = 0
                self.assertIs(shows_paper(COSTS, (list(rows), columns)), True)
                rows[row] += 1
                self.assertIs(shows_paper(COSTS, (rows, columns)), False, (row, column))

    def test_too_few_and_too_many_numbers(self):
        for rows in [[], [0], [0, 0, 0]]:
            self.assertIs(shows_paper(COSTS, (rows, [0, 0, 0])), False)
        for columns in [[], [0], [0, 0], [0, 0, 0, 0]]:
            self.assertIs(shows_paper(COSTS, ([0, 0], columns)), False)

    def test_true_and_false_are_no_numbers(self):
        self.assertIs(shows_paper(COSTS, ([1, 0], [0, 0, 0])), True)
        self.assertIs(shows_paper(COSTS, ([True, 0], [0, 0, 0])), False)
        self.assertIs(shows_paper(COSTS, ([1, False], [0, 0, 0])), False)
        for at in range(3):
            columns = [0, 0, 0]
            columns[at] = False
            self.assertIs(shows_paper(COSTS, ([1, 0], columns)), False)

    def test_other_things_for_the_lists_and_the_pair(self):
        rows, columns = PAPER
        for thing in [[rows, columns], (tuple(rows), columns), (rows, tuple(columns)), (rows, columns, []), (rows,),
                      (columns, rows), (rows, columns, columns), (rows + columns, []), (rows, None), (None, columns),
                      (["3", 2], columns), (rows, [0, None, 0]), (rows, [[0], [-2], [0]]), (rows, "000")]:
            self.assertIs(shows_paper(COSTS, thing), False, thing)

    def test_of_no_rows(self):
        self.assertIs(shows_paper([], ([], [])), True)
        for thing in [([0], []), ([], [0]), ([], [], []), [[], []], ((), ()), ([], ()), ((), []), []]:
            self.assertIs(shows_paper([], thing), False, thing)

    def test_anything_at_all(self):
        for costs in [[], [[0]], COSTS, some_costs(1, 12, 12, 9)]:
            for thing in ODD_THINGS:
                self.assertIs(shows_paper(costs, thing), False, repr(thing)[:60])
                self.assertIs(shows_paper(costs, (thing, [0] * len(costs))), costs == [] and thing == [])

    def test_what_is_handed_in_stays(self):
        costs, paper = copy.deepcopy(COSTS), copy.deepcopy(PAPER)
        shows_paper(costs, paper)
        shows_matched(costs, [1, 0], paper)
        self.assertEqual((costs, paper), (COSTS, PAPER))


class ShowsMatchedTest(unittest.TestCase):
    def test_matched_columns_with_a_paper(self):
        self.assertIs(shows_matched(COSTS, [1, 0], PAPER), True)
        self.assertIs(shows_matched(COSTS, [1, 0], ([4, 2], [0, -3, 0])), True)
        self.assertIs(shows_matched([[5, 5], [5, 5]], [0, 1], ([5, 5], [0, 0])), True)
        self.assertIs(shows_matched([[5, 5], [5, 5]], [1, 0], ([6, 6], [-1, -1])), True)
        self.assertIs(shows_matched([], [], ([], [])), True)

    def test_columns_that_are_not_as_little_as_can_be(self):
        for columns in permutations(range(3), 2):
            self.assertIs(shows_matched(COSTS, list(columns), PAPER), columns == (1, 0), columns)

    def test_against_all_matchings(self):
        for costs in small_costs():
            paper = paper_for(costs)
            least = least_by_trying(costs)
            for columns in permutations(range(len(costs[0]) if costs else 0), len(costs)):
                total = sum(row[column] for row, column in zip(costs, columns))
                self.assertIs(shows_matched(costs, list(columns), paper), total == least)

    def test_columns_that_are_none(self):
        for columns in [[1, 1], [1, 3], [1, -3], [-2, 0], [True, 0], [1, False], [1], [], [1, 0, 2], (1, 0), None, 1,
                        "10", [[1], [0]], [1, None], [1, "0"], [(1,), 0]]:
            self.assertIs(shows_matched(COSTS, columns, PAPER), False, columns)

    def test_a_column_twice_is_refused_even_where_the_sum_fits(self):
        costs = [[1, 2], [1, 2]]
        self.assertIs(shows_matched(costs, [0, 1], ([1, 1], [0, 0])), False)
        self.assertIs(shows_matched(costs, [0, 0], ([1, 1], [0, 0])), False)
        self.assertIs(shows_matched(costs, [0, 1], ([2, 2], [-1, 0])), True)

    def test_columns_that_there_are_not_even_where_the_sum_fits(self):
        self.assertIs(shows_matched([[5, 1]], [1], ([1], [0, 0])), True)
        for columns in [[-1], [-3], [3], [True], ["1"]]:
            self.assertIs(shows_matched([[5, 1]], columns, ([1], [0, 0])), False, columns)
        self.assertIs(shows_matched([[5, 1]], [2], ([1], [0, 0])), False)

    def test_a_paper_with_less_in_all(self):
        for paper in [([2, 2], [0, -2, 0]), ([3, 1], [0, -2, 0]), ([3, 2], [-1, -2, 0]), ([3, 2], [0, -2, -1])]:
            self.assertIs(shows_paper(COSTS, paper), True)
            self.assertIs(shows_matched(COSTS, [1, 0], paper), False, paper)

    def test_a_paper_that_is_none(self):
        # All together these are just what stands there, but some clause is broken.
        for paper in [([4, 1], [0, -2, 0]), ([2, 1], [0, -1, 1]), ([3, 2], [0, -2, 0, 0]), ([3, 2, 0], [0, -2, 0])]:
            self.assertEqual(sum(paper[0]) + sum(paper[1]), 3)
            self.assertIs(shows_matched(COSTS, [1, 0], paper), False, paper)
        self.assertIs(shows_matched(COSTS, [1, 0], list(PAPER)), False)

    def test_one_step_otherwise(self):
        for thing in otherwise(PAPER):
            self.assertIs(shows_matched(COSTS, [1, 0], thing), False, thing)
        for thing in otherwise([1, 0]):
            self.assertIs(shows_matched(COSTS, thing, PAPER), False, thing)

    def test_anything_at_all_in_either_place(self):
        for thing in ODD_THINGS:
            self.assertIs(shows_matched(COSTS, thing, PAPER), False, repr(thing)[:60])
            self.assertIs(shows_matched(COSTS, [1, 0], thing), False, repr(thing)[:60])
            self.assertIs(shows_matched(COSTS, thing, thing), False, repr(thing)[:60])
            self.assertIs(shows_matched([], thing, ([], [])), isinstance(thing, list) and thing == [])


def cost_by_hand(job, kind, slot):
    total = 0
    for other, place in job[3]:
        if other == kind:
            total += far(job[0], slot) + far(slot, place) + far(place, job[0])
    return total


class SlotCostsTest(unittest.TestCase):
    def test_by_hand(self):
        # chips lie at (5, 50) and (25, 70), diodes at (15, 60) and (35, 80); the gate at (0, 0).
        self.assertEqual(slot_costs(JOB, [(10, 0), (0, 100)]), [
            [10 + 50 + 50 + 10 + 70 + 70, 100 + 50 + 50 + 100 + 30 + 70],
            [10 + 60 + 60 + 10 + 80 + 80, 100 + 40 + 60 + 100 + 35 + 80]])

    def test_one_part_and_another_gate(self):
        job = ((7, 3), 1, FEEDERS, (("coil", (10, 20)),), ())
        self.assertEqual(slot_costs(job, [(9, 4)]), [[2 + 16 + 17]])

    def test_kinds_rise(self):
        parts = (("coil", (1, 1)), ("diode", (500, 0)), ("chip", (0, 900)))
        self.assertEqual(slot_costs(job_with(parts=parts, aheads=()), [GATE, GATE, GATE]),
                         [[1800] * 3, [2] * 3, [1000] * 3])

    def test_more_slots_than_kinds_and_like_slots(self):
        slots = [(3, 3), (3, 3), (50, 9), (0, 0), (1000, 1000)]
        told = slot_costs(JOB, slots)
        self.assertEqual(told, [[cost_by_hand(JOB, kind, slot) for slot in slots] for kind in ("chip", "diode")])

    def test_some_jobs(self):
        for seed in range(30):
            job = some_job(seed, seed % 9, kinds=1 + seed % 4, side=40)
            slots = [(Random(seed + at).randint(0, 1000), at * 80) for at in range(4 + seed % 9)]
            kinds = sorted({kind for kind, place in job[3]})
            self.assertEqual(slot_costs(job, slots),
                             [[cost_by_hand(job, kind, slot) for slot in slots] for kind in kinds])

    def test_without_parts(self):
        for slots in [[], [GATE], [GATE, (5, 5)]]:
            self.assertEqual(slot_costs(BARE_JOB, slots), [])
            self.assertEqual(slot_costs(job_with(parts=(), aheads=()), slots), [])

    def test_all_stays_and_lists_are_the_askers_own(self):
        job, slots = copy.deepcopy(JOB), [GATE, GATE, GATE]
        told = slot_costs(job, slots)
        again = copy.deepcopy(told)
        self.assertEqual(len({id(one) for one in lists_in(told)}), 3)
        told[0][0] = -5
        told.append([])
        self.assertEqual(slot_costs(job, slots), again)
        self.assertEqual((job, slots), (JOB, [GATE, GATE, GATE]))


class PlacedFeedersTest(unittest.TestCase):
    def check(self, job, slots):
        placed = placed_feeders(job, slots)
        self.assertIs(is_job(placed), True, placed)
        self.assertIs(is_stocked(placed), True)
        self.assertEqual(put_at(placed, 2, job[2]), job)
        columns = matched_slots(slot_costs(job, slots))[1]
        self.assertEqual([(kind, many) for kind, place, many in placed[2]], wanted_of(job))
        self.assertEqual([place for kind, place, many in placed[2]], [slots[column] for column in columns])
        return placed

    def test_by_hand(self):
        # Near slots save chips more than coils here: there are two chips.
        parts = (("chip", (0, 10)), ("coil", (10, 0)), ("chip", (10, 10)))
        job = job_with(parts=parts, aheads=((1, 0),))
        self.assertEqual(self.check(job, [(500, 500), (5, 5)]),
                         (GATE, 2, (("chip", (5, 5), 2), ("coil", (500, 500), 1)), parts, ((1, 0),)))

    def test_some_jobs(self):
        for seed in range(40):
            job = some_job(seed, seed % 10, kinds=1 + seed % 4, heads=1 + seed % 4, side=30)
            self.check(job, [(Random(seed + at).randint(0, 1000), at) for at in range(4 + seed % 9)])

    def test_twelve_kinds_and_twelve_slots(self):
        kinds = "abcdefghijkl"
        feeders = tuple((kind, (5, 5), 0) for kind in kinds[::-1])
        parts = tuple((kinds[at * 7 % 12], place) for at, (kind, place) in enumerate(board_of(60)))
        job = (GATE, 4, feeders, parts, ((0, 59), (3, 4)))
        placed = self.check(job, [(at * 50, 1000 - at) for at in range(12)])
        self.assertEqual([row[0] for row in placed[2]], list(kinds))
        self.assertEqual([row[2] for row in placed[2]], [5] * 12)

    def test_like_slots(self):
        placed = self.check(JOB, [(4, 4), (4, 4)])
        self.assertEqual(placed[2], (("chip", (4, 4), 2), ("diode", (4, 4), 2)))

    def test_without_parts(self):
        self.assertEqual(placed_feeders(BARE_JOB, []), BARE_JOB)
        self.assertEqual(placed_feeders(job_with(parts=(), aheads=()), [GATE, (5, 5)]), (GATE, 2, (), (), ()))

    def test_all_stays_and_the_same_is_told(self):
        job, slots = copy.deepcopy(JOB), [(9, 9), GATE, (3, 3)]
        told = placed_feeders(job, slots)
        self.assertEqual((job, slots), (JOB, [(9, 9), GATE, (3, 3)]))
        self.assertEqual(placed_feeders(job, slots), told)


if __name__ == "__main__":
    unittest.main()
