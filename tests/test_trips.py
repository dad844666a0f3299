import copy
import unittest
from itertools import permutations

from pickboard.jobs import is_job
from pickboard.plans import is_trip
from pickboard.trips import alone_ways, shortest_trip, shows_shortest
from samples import (
    BARE_JOB, FREE_JOB, GATE, JOB, ODD_THINGS, all_trips, board_of, closure_of, groups_of, job_with, put_at, some_job,
    way_by_hand,
)


def small_jobs():
    """Jobs with several feeders of a kind, some with none left, and parts of which some must lie ahead of others."""
    for seed in range(90):
        many = 2 + seed % 4
        yield some_job(seed, many, feeders=3 + seed % 3, kinds=1 + seed % 3, heads=1 + seed % 3, pairs=seed % 5, most=1)
    # Four heads make many trips, so of these there are few.
    for seed in range(4):
        yield some_job(seed, 4 + seed % 2, feeders=5, kinds=2 + seed % 3, heads=4, pairs=seed, most=2)


def crowded_job():
    """Sixty parts, twenty feeders and as many pairs as can be."""
    kinds = ["chip", "coil", "diode", "a"]
    feeders = tuple((kinds[at % 4], (at * 7 % 50, at * 11 % 40), at % 3) for at in range(20))
    parts = tuple((kinds[at * 3 % 4], (at * 13 % 61, 50 + at)) for at in range(60))
    aheads = tuple((at * 7 % 30, 30 + at * 11 % 30) for at in range(200))
    return (GATE, 4, feeders, parts, aheads)


class ShortestTripTest(unittest.TestCase):
    def check(self, job, parts, told):
        """The told pair is of a trip of these parts that is let, and of its way."""
        self.assertIsInstance(told, tuple)
        way, trip = told
        self.assertIs(is_trip(job, trip), True, (job, parts, told))
        self.assertEqual(sorted(trip[1]), parts)
        for part, feeder in trip[0]:
            self.assertEqual(job[2][feeder][0], job[3][part][0])
        joined = closure_of(len(job[3]), job[4])
        for at, part in enumerate(trip[1]):
            self.assertFalse(any((part, other) in joined for other in trip[1][:at]), (job, told))
        self.assertEqual(way, way_by_hand(job, trip))

    def test_by_hand(self):
        self.assertEqual(shortest_trip(JOB, [0]), (10 + 50 + 50, (((0, 0),), (0,))))
        self.assertEqual(shortest_trip(JOB, [3])[0], 20 + 80 + 80)
        self.assertEqual(shortest_trip(JOB, [1, 3])[0], 20 + 60 + 20 + 80)
        way, trip = shortest_trip(put_at(JOB, 4, ((3, 1),)), [1, 3])
        self.assertEqual((way, trip[1]), (20 + 80 + 20 + 60, (3, 1)))

    def test_the_nearest_feeder_for_the_way_not_for_the_gate(self):
        feeders = (("chip", (1, 0), 1), ("chip", (40, 40), 1))
        job = (GATE, 1, feeders, (("chip", (50, 50)), ("chip", (0, 50))), ())
        self.assertEqual(shortest_trip(job, [0])[0], 100)
        self.assertEqual(shortest_trip(job, [1])[0], 1 + 50 + 50)

    def test_against_all_trips_tried_one_by_one(self):
        for job in small_jobs():
            self.assertTrue(is_job(job))
            for group in groups_of(len(job[3]), job[1]):
                told = shortest_trip(job, list(group))
                self.check(job, list(group), told)
                self.assertEqual(told[0], min(way_by_hand(job, trip) for trip in all_trips(job, group)), (job, group))

    def test_an_order_that_is_asked_makes_it_longer(self):
        feeders = (("chip", (0, 0), 0),)
        parts = (("chip", (10, 0)), ("chip", (20, 0)), ("chip", (30, 0)))
        for aheads, way in [((), 60), (((2, 0),), 60), (((1, 0), (0, 2)), 20 + 10 + 20 + 30), (((0, 2), (2, 1)), 60)]:
            job = (GATE, 3, feeders, parts, aheads)
            self.assertEqual(shortest_trip(job, [0, 1, 2])[0], way, aheads)

    def test_ahead_by_parts_that_are_not_among_them(self):
        feeders = (("chip", (0, 0), 9),)
        parts = (("chip", (0, 10)), ("chip", (10, 10)), ("chip", (500, 500)), ("chip", (10, 0)))
        free = (GATE, 4, feeders, parts, ())
        held = put_at(free, 4, ((1, 2), (2, 0), (0, 3)))
        self.assertEqual(shortest_trip(free, [0, 1, 3])[0], 40)
        for parts, way, lays in [([0, 1], 30, (1, 0)), ([0, 1, 3], 40, (1, 0, 3)), ([1, 3], 30, (1, 3))]:
            told, trip = shortest_trip(held, parts)
            self.assertEqual((told, trip[1]), (way, lays))

    def test_feeders_with_none_left_serve_too(self):
        feeders = (("chip", (90, 0), 400), ("chip", (10, 0), 0))
        job = (GATE, 2, feeders, (("chip", (10, 10)), ("chip", (20, 10))), ())
        self.assertEqual(shortest_trip(job, [0, 1])[0], 10 + 10 + 10 + 10)

    def test_all_places_are_one(self):
        job = (GATE, 1, (("chip", GATE, 1),), (("chip", GATE),), ())
        self.assertEqual(shortest_trip(job, [0]), (0, (((0, 0),), (0,))))

    def test_sixty_parts_and_twenty_feeders(self):
        job = crowded_job()
        self.assertTrue(is_job(job))
        for parts in [[0], [0, 1], [3, 17, 42], [0, 1, 30, 31], [56, 57, 58, 59]]:
            self.check(job, parts, shortest_trip(job, parts))
        lone_kind = (GATE, 4, tuple(("chip", (at * 7 % 50, at), 0) for at in range(20)), board_of(60), ())
        self.check(lone_kind, [0, 20, 40, 59], shortest_trip(lone_kind, [0, 20, 40, 59]))

    def test_job_and_list_stay_and_the_same_is_told_again(self):
        job, parts = copy.deepcopy(JOB), [0, 1]
        told = shortest_trip(job, parts)
        self.assertEqual(shortest_trip(job, parts), told)
        shows_shortest(job, parts, told)
        self.assertEqual((job, parts), (JOB, [0, 1]))


class ShowsShortestTest(unittest.TestCase):
    def holds(self, job, parts, thing):
        self.assertIs(shows_shortest(job, parts, thing), True, (job, parts, thing))

    def fails(self, job, parts, thing):
        self.assertIs(shows_shortest(job, parts, thing), False, (job, parts, repr(thing)[:300]))

    def test_what_shortest_trip_tells(self):
        for job in small_jobs():
            for group in groups_of(len(job[3]), job[1]):
                self.holds(job, list(group), shortest_trip(job, list(group)))

    def test_all_trips_just_the_shortest_ones(self):
        seen = {True: 0, False: 0}
        for seed in range(24):
            job = some_job(seed, 4, feeders=4, kinds=2, heads=2, pairs=seed % 4, side=4)
            for group in groups_of(4, 2):
                trips = [(way_by_hand(job, trip), trip) for trip in all_trips(job, group)]
                least = min(trips)[0]
                for way, trip in trips:
                    self.assertIs(shows_shortest(job, list(group), (way, trip)), way == least)
                    seen[way == least] += 1
        self.assertGreater(seen[True], 300)
        self.assertGreater(seen[False], 300)

    def test_other_trips_that_are_as_short(self):
        job = (GATE, 2, (("chip", (5, 0), 1), ("chip", (5, 5), 1)), (("chip", (10, 0)), ("chip", (10, 5))), ())
        for first in permutations([0, 1]):
            for feeders in [(0, 0), (0, 1), (1, 0), (1, 1)]:
                for lays in permutations([0, 1]):
                    trip = (tuple(zip(first, feeders)), lays)
                    way = way_by_hand(job, trip)
                    self.assertIs(shows_shortest(job, [0, 1], (way, trip)), way == 25)

    def test_a_number_that_is_not_the_trips_way(self):
        way, trip = shortest_trip(JOB, [0, 1])
        for other in [way - 1, way + 1, 0, -way, 10 ** 30, None, str(way), (way,), [way], True]:
            self.fails(JOB, [0, 1], (other, trip))

    def test_a_longer_trip_with_its_own_way_and_with_the_least(self):
        way = shortest_trip(JOB, [0])[0]
        longer = (((0, 2),), (0,))
        self.fails(JOB, [0], (way_by_hand(JOB, longer), longer))
        self.fails(JOB, [0], (way, longer))

    def test_true_and_false_are_no_ways(self):
        job = (GATE, 1, (("chip", GATE, 1), ("chip", (1, 0), 1)), (("chip", GATE),), ())
        self.holds(job, [0], (0, (((0, 0),), (0,))))
        self.fails(job, [0], (False, (((0, 0),), (0,))))
        job = (GATE, 1, (("chip", GATE, 1),), (("chip", GATE), ("chip", (0, 1))), ())
        self.holds(job, [1], (2, (((1, 0),), (1,))))
        self.fails(job, [1], (2, (((True, 0),), (1,))))
        self.fails(job, [1], (2, (((1, 0),), (True,))))
        self.fails(job, [1], (2, (((1, False),), (1,))))

    def test_other_parts(self):
        for parts in [[0], [1], [0, 1], [2, 3]]:
            for others in [[0], [1], [2], [3], [0, 1], [0, 2], [1, 2], [2, 3]]:
                told = shortest_trip(JOB, others)
                self.assertIs(shows_shortest(JOB, parts, told), parts == others)

    def test_other_parts_at_the_same_way(self):
        job = (GATE, 2, (("chip", GATE, 9),), (("chip", (5, 0)), ("chip", (5, 1)), ("chip", (5, 2))), ())
        self.holds(job, [0], (10, (((0, 0),), (0,))))
        self.fails(job, [0], (10, (((1, 0),), (1,))))
        self.fails(job, [1], (10, (((0, 0),), (0,))))

    def test_a_feeder_of_another_kind(self):
        job = job_with((("chip", (1, 1), 9), ("diode", (1, 1), 9)), (("chip", (5, 5)), ("diode", (6, 5))), ())
        way, trip = shortest_trip(job, [0, 1])
        self.holds(job, [0, 1], (way, (((0, 0), (1, 1)), trip[1])))
        for feeders in [(1, 1), (0, 0), (1, 0)]:
            self.fails(job, [0, 1], (way, (((0, feeders[0]), (1, feeders[1])), trip[1])))

    def test_an_order_that_is_not_let(self):
        parts = (("chip", (5, 5)), ("chip", (5, 6)), ("chip", (5, 7)))
        feeders = (("chip", (0, 6), 9),)
        for aheads in [((0, 1),), ((0, 2), (2, 1))]:
            job = ((0, 6), 2, feeders, parts, aheads)
            self.assertEqual(shortest_trip(job, [0, 1])[0], 11)
            self.holds(job, [0, 1], (11, (((0, 0), (1, 0)), (0, 1))))
            self.fails(job, [0, 1], (11, (((0, 0), (1, 0)), (1, 0))))
            self.holds(put_at(job, 4, ()), [0, 1], (11, (((0, 0), (1, 0)), (1, 0))))

    def test_lists_for_tuples_and_other_numbers_of_things(self):
        way, trip = shortest_trip(JOB, [0, 1])
        picks, lays = trip
        self.holds(JOB, [0, 1], (way, (picks, lays)))
        for thing in [
            [way, trip], (way, list(trip)), (way, (list(picks), lays)), (way, (picks, list(lays))),
            (way, (tuple(list(pick) for pick in picks), lays)), (way,), (way, trip, trip), (way, trip, None), trip, way,
            (trip, way), ((way, trip),), [(way, trip)], (way, picks), (way, lays), (way, picks, lays), (way, [trip]),
        ]:
            self.fails(JOB, [0, 1], thing)

    def test_anything(self):
        way, trip = shortest_trip(JOB, [0, 1])
        for thing in ODD_THINGS:
            for tried in [thing, (thing, trip), (way, thing), (way, (thing, trip[1])), (way, (trip[0], thing))]:
                self.fails(JOB, [0, 1], tried)

    def test_sixty_parts_and_twenty_feeders(self):
        job = crowded_job()
        for parts in [[0], [0, 59], [0, 1, 30, 31]]:
            way, trip = shortest_trip(job, parts)
            self.holds(job, parts, (way, trip))
            self.fails(job, parts, (way + 1, trip))


class AloneWaysTest(unittest.TestCase):
    def test_part_by_part(self):
        self.assertEqual(alone_ways(JOB), [10 + 50 + 50, 20 + 60 + 60, 10 + 70 + 70, 20 + 80 + 80])
        self.assertEqual(alone_ways(FREE_JOB), alone_ways(JOB))

    def test_feeders_with_none_left(self):
        job = (GATE, 1, (("chip", (9, 9), 5), ("chip", (0, 5), 0)), (("chip", (0, 6)), ("chip", (9, 10))), ())
        self.assertEqual(alone_ways(job), [5 + 1 + 6, 9 + 1 + 10])

    def test_against_all_trips(self):
        for seed in range(40):
            job = some_job(seed, 7, feeders=6, kinds=3, pairs=4, most=1)
            self.assertEqual(alone_ways(job), [
                min(way_by_hand(job, trip) for trip in all_trips(job, [part])) for part in range(7)])

    def test_of_a_job_without_parts(self):
        self.assertEqual(alone_ways(BARE_JOB), [])
        self.assertEqual(alone_ways(job_with(parts=(), aheads=())), [])

    def test_of_sixty_parts(self):
        job = crowded_job()
        told = alone_ways(job)
        self.assertEqual(len(told), 60)
        least = [min(way_by_hand(job, trip) for trip in all_trips(job, [part])) for part in range(60)]
        self.assertEqual(told, least)

    def test_the_told_list_is_the_askers_own_and_the_job_stays(self):
        job = copy.deepcopy(JOB)
        told = alone_ways(job)
        kept = list(told)
        told.append(9)
        again = alone_ways(job)
        self.assertEqual(again, kept)
        self.assertIsNot(alone_ways(job), again)
        self.assertEqual(job, JOB)


if __name__ == "__main__":
    unittest.main()
