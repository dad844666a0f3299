import copy
import unittest

from pickboard.errors import TooMany
from pickboard.jobs import is_stocked
from pickboard.least import least_plan
from pickboard.prices import bound_of, prices_for, shows_prices
from pickboard.trips import shortest_trip
from samples import (
    BARE_JOB, FEEDERS, GATE, JOB, ODD_THINGS, all_trips, board_of, groups_of, job_with, put_at, some_job, stocked,
    way_by_hand,
)


def ways_by_trying(job):
    """For each group of one to heads parts the least way of a trip of them, by trying all."""
    return {group: min(way_by_hand(job, trip) for trip in all_trips(job, group))
            for group in groups_of(len(job[3]), job[1])}


def keep_to(prices, ways):
    return all(sum(prices[part] for part in group) <= way for group, way in ways.items())


def small_jobs():
    """Jobs of up to five parts, stocked and not."""
    for seed in range(60):
        yield some_job(seed, seed % 6, feeders=3, kinds=1 + seed % 3, heads=1 + seed // 6 % 3, pairs=seed // 18, most=3)


class PricesForTest(unittest.TestCase):
    def check(self, job, ways):
        prices = prices_for(job)
        self.assertIsInstance(prices, list)
        self.assertEqual(len(prices), len(job[3]))
        for part, price in enumerate(prices):
            self.assertIs(price.__class__, int)
            self.assertGreaterEqual(price, 0)
            more = prices[:part] + [price + 1] + prices[part + 1:]
            self.assertFalse(keep_to(more, ways), (job, prices, part))
        self.assertTrue(keep_to(prices, ways), (job, prices))

    def test_against_all_trips(self):
        for job in small_jobs():
            self.check(job, ways_by_trying(job))

    def test_jobs_that_are_not_stocked_are_among_them(self):
        told = [is_stocked(job) for job in small_jobs()]
        self.assertGreater(told.count(True), 5)
        self.assertGreater(told.count(False), 20)

    def test_twelve_parts(self):
        for seed in range(4):
            job = some_job(seed, 12, feeders=6, kinds=4, heads=1 + seed, pairs=3 * seed, most=2, side=50)
            ways = {group: shortest_trip(job, list(group))[0] for group in groups_of(12, job[1])}
            self.check(job, ways)

    def test_one_part(self):
        job = (GATE, 4, (("chip", (10, 0), 0),), (("chip", (5, 50)),), ())
        self.assertEqual(prices_for(job), [110])

    def test_one_head(self):
        self.assertEqual(prices_for(put_at(JOB, 1, 1)), [110, 140, 150, 180])

    def test_parts_that_cost_nothing(self):
        job = (GATE, 2, (("chip", GATE, 0),), (("chip", GATE), ("chip", (3, 3))), ())
        self.assertEqual(prices_for(job), [0, 6])

    def test_without_parts(self):
        self.assertEqual(prices_for(BARE_JOB), [])
        self.assertEqual(prices_for(job_with(parts=(), aheads=())), [])

    def test_no_plan_is_below_them(self):
        for seed in range(20):
            job = stocked(some_job(seed, 1 + seed % 8, feeders=5, kinds=3, heads=1 + seed % 4, pairs=seed % 5, side=30))
            self.assertLessEqual(bound_of(prices_for(job)), least_plan(job)[0])

    def test_the_told_list_is_the_askers_own_and_the_job_stays(self):
        job = copy.deepcopy(JOB)
        told = prices_for(job)
        kept = list(told)
        told.append(9)
        told[0] += 1
        again = prices_for(job)
        self.assertEqual(again, kept)
        self.assertIsNot(prices_for(job), again)
        shows_prices(job, again)
        self.assertEqual((job, again), (JOB, kept))


class ShowsPricesTest(unittest.TestCase):
    def holds(self, job, thing):
        self.assertIs(shows_prices(job, thing), True, (job, thing))

    def fails(self, job, thing):
        self.assertIs(shows_prices(job, thing), False, (job, repr(thing)[:300]))

    def test_what_prices_for_tells_and_less(self):
        for job in small_jobs():
            prices = prices_for(job)
            self.holds(job, prices)
            self.holds(job, [price // 2 for price in prices])
            self.holds(job, [0 for price in prices])

    def test_one_price_one_more(self):
        for job in small_jobs():
            prices = prices_for(job)
            for part in range(len(prices)):
                self.fails(job, prices[:part] + [prices[part] + 1] + prices[part + 1:])

    def test_all_prices_of_a_small_job(self):
        job = ((5, 5), 2, (("chip", (5, 4), 0),), (("chip", (5, 5)), ("chip", (6, 5)), ("chip", (4, 7))), ((1, 0),))
        ways = ways_by_trying(job)
        told = []
        for one in range(5):
            for other in range(6):
                for third in range(8):
                    thing = [one, other, third]
                    told.append(shows_prices(job, thing))
                    self.assertIs(told[-1], keep_to(thing, ways), thing)
        self.assertGreater(told.count(True), 20)
        self.assertGreater(told.count(False), 20)

    def test_groups_of_up_to_as_many_as_heads(self):
        feeders = (("chip", GATE, 9),)
        parts = tuple(("chip", (10, at)) for at in range(5))
        for heads, price in [(1, 20), (2, 10), (3, 7), (4, 5)]:
            job = (GATE, heads, feeders, parts, ())
            ways = ways_by_trying(job)
            self.holds(job, [price] * 5)
            self.assertTrue(keep_to([price] * 5, ways))
            self.fails(job, [price + 1] * 5)

    def test_one_below_nought(self):
        for part in range(4):
            thing = [0, 0, 0, 0]
            self.holds(JOB, thing)
            thing[part] = -1
            self.fails(JOB, thing)
            thing[part] = -(10 ** 30)
            self.fails(JOB, thing)

    def test_too_few_and_too_many(self):
        for thing in [[], [0], [0, 0, 0], [0, 0, 0, 0, 0], [0] * 60]:
            self.fails(JOB, thing)
        self.holds(BARE_JOB, [])
        self.fails(BARE_JOB, [0])

    def test_no_numbers(self):
        for part in range(4):
            for thing in ODD_THINGS:
                prices = [0, 0, 0, 0]
                prices[part] = thing
                small = not isinstance(thing, bool) and thing in [0, 1, 5]
                self.assertIs(shows_prices(JOB, prices), small, (part, repr(thing)[:60]))

    def test_a_tuple_for_the_list(self):
        self.fails(JOB, (0, 0, 0, 0))
        self.fails(JOB, tuple(prices_for(JOB)))
        self.fails(BARE_JOB, ())

    def test_anything(self):
        for thing in ODD_THINGS:
            self.fails(JOB, thing)
            self.fails(JOB, [thing])
            self.fails(JOB, (thing, thing, thing, thing))
            self.assertIs(shows_prices(BARE_JOB, thing), thing == [])


class TooManyTest(unittest.TestCase):
    def job_of(self, many):
        return job_with(FEEDERS, board_of(many), ())

    def test_twelve_parts_are_let(self):
        for many in [11, 12]:
            job = self.job_of(many)
            self.assertIs(shows_prices(job, prices_for(job)), True)
            self.assertIs(shows_prices(job, None), False)

    def test_more_are_refused(self):
        for many in [13, 14, 60]:
            job = self.job_of(many)
            with self.assertRaises(TooMany) as caught:
                prices_for(job)
            self.assertIs(caught.exception.__class__, TooMany)
            for thing in [[0] * many, [], None]:
                with self.assertRaises(TooMany) as caught:
                    shows_prices(job, thing)
                self.assertIs(caught.exception.__class__, TooMany)

    def test_stocked_or_not(self):
        for stock in [0, 60]:
            with self.assertRaises(TooMany):
                prices_for(job_with((("chip", (1, 1), stock),), board_of(13), ()))
            prices_for(job_with((("chip", (1, 1), stock),), board_of(12), ()))


class BoundOfTest(unittest.TestCase):
    def test_all_together(self):
        self.assertEqual(bound_of([]), 0)
        self.assertEqual(bound_of([7]), 7)
        self.assertEqual(bound_of([1, 2, 30, 0, 2]), 35)
        self.assertEqual(bound_of([5, -8]), -3)

    def test_the_list_stays(self):
        some = [3, 1, 2]
        bound_of(some)
        self.assertEqual(some, [3, 1, 2])


if __name__ == "__main__":
    unittest.main()
