import copy
import unittest
from random import Random

from pickboard.places import going_to
from pickboard.plans import stops_of
from pickboard.tracks import is_track, track_by, track_of
from samples import BARE_JOB, GATE, JOB, ODD_THINGS, ONE, TWO, far, otherwise, right_plan, some_job, stocked


def toward(one, other):
    return one + (one < other) - (one > other)


def track_by_hand(places, work):
    """The x's of one who steps tick by tick, in both sides at once, and works at each place."""
    x, y = places[0]
    track = [x]
    for at, goal in enumerate(places):
        while (x, y) != goal:
            x, y = toward(x, goal[0]), toward(y, goal[1])
            track.append(x)
        for tick in range(work):
            track.append(x)
    return track


def some_places(seed, many, side):
    chance = Random(seed)
    return [(chance.randint(0, side), chance.randint(0, side)) for step in range(many)]


class TrackByTest(unittest.TestCase):
    def test_one_place(self):
        self.assertEqual(track_by([(7, 3)], 0), [7])
        self.assertEqual(track_by([(7, 3)], 1), [7, 7])
        self.assertEqual(track_by([(7, 3)], 20), [7] * 21)

    def test_two_places(self):
        self.assertEqual(track_by([(2, 9), (5, 9)], 0), [2, 3, 4, 5])
        self.assertEqual(track_by([(5, 9), (2, 9)], 0), [5, 4, 3, 2])
        self.assertEqual(track_by([(2, 9), (5, 9)], 2), [2, 2, 2, 3, 4, 5, 5, 5])
        # The way is as long as the longer side; x is there sooner, and waits for y.
        self.assertEqual(track_by([(2, 9), (4, 4)], 0), [2, 3, 4, 4, 4, 4])
        self.assertEqual(track_by([(2, 9), (4, 4)], 1), [2, 2, 3, 4, 4, 4, 4, 4])
        self.assertEqual(track_by([(2, 9), (2, 6)], 0), [2, 2, 2, 2])

    def test_several_places(self):
        self.assertEqual(track_by([(0, 0), (2, 1), (1, 0), (1, 2)], 0), [0, 1, 2, 1, 1, 1])
        self.assertEqual(track_by([(0, 0), (2, 1), (1, 0), (1, 2)], 1), [0, 0, 1, 2, 2, 1, 1, 1, 1, 1])

    def test_like_places_one_behind_the_other(self):
        self.assertEqual(track_by([(3, 3), (3, 3)], 0), [3])
        self.assertEqual(track_by([(3, 3), (3, 3)], 2), [3] * 5)
        self.assertEqual(track_by([(3, 3), (3, 3), (3, 3), (4, 3), (4, 3)], 1), [3, 3, 3, 3, 4, 4, 4])

    def test_tick_by_tick_as_going_to_tells(self):
        for seed in range(20):
            one, other = some_places(seed, 2, 40)
            told = track_by([one, other], 0)
            self.assertEqual(told, [going_to(one, other, tick)[0] for tick in range(far(one, other) + 1)])

    def test_some_places_step_by_step(self):
        for seed in range(60):
            places = some_places(seed, 1 + seed % 7, [1, 3, 30][seed % 3])
            for work in [0, 1, 2, 20]:
                told = track_by(places, work)
                self.assertEqual(told, track_by_hand(places, work))
                self.assertIs(is_track(told), True)

    def test_a_hundred_and_thirty_places(self):
        places = some_places(1, 130, 1000)
        told = track_by(places, 20)
        self.assertEqual(told, track_by_hand(places, 20))
        self.assertIs(is_track(told), True)
        self.assertEqual(track_by([(0, 0), (1000, 1000)] * 65, 0),
                         [0] + (list(range(1, 1001)) + list(range(999, -1, -1))) * 64 + list(range(1, 1001)))

    def test_places_stay_and_the_told_list_is_the_askers_own(self):
        places = [(3, 4), (5, 6)]
        told = track_by(places, 1)
        told.append(99)
        self.assertEqual(places, [(3, 4), (5, 6)])
        self.assertEqual(track_by(places, 1), [3, 3, 4, 5, 5])


class TrackOfTest(unittest.TestCase):
    def test_all_stops_of_all_trips(self):
        for plan in [[ONE], [TWO], [ONE, TWO]]:
            stops = [stop for trip in plan for stop in stops_of(JOB, trip)]
            for work in [0, 1, 20]:
                self.assertEqual(track_of(JOB, plan, work), track_by_hand(stops, work))

    def test_by_hand(self):
        job = ((0, 0), 1, (("chip", (2, 0), 2),), (("chip", (2, 1)), ("chip", (3, 0))), ())
        plan = [(((0, 0),), (0,)), (((1, 0),), (1,))]
        self.assertEqual(track_of(job, plan, 0), [0, 1, 2, 2, 1, 0, 1, 2, 3, 2, 1, 0])
        # At the gate between two trips there are two stops.
        self.assertEqual(track_of(job, plan, 1), [0, 0, 1, 2, 2, 2, 2, 1, 0, 0, 0, 1, 2, 2, 3, 3, 2, 1, 0, 0])

    def test_a_plan_without_trips(self):
        self.assertEqual(track_of(JOB, [], 0), [0])
        self.assertEqual(track_of(((8, 5), 1, (), (), ()), [], 3), [8] * 4)
        self.assertEqual(track_of(BARE_JOB, [], 0), [GATE[0]])

    def test_some_plans(self):
        for seed in range(30):
            job = stocked(some_job(seed, 1 + seed % 9, heads=1 + seed % 4, side=20))
            plan = right_plan(Random(seed), job)
            stops = [stop for trip in plan for stop in stops_of(job, trip)] or [job[0]]
            self.assertEqual(track_of(job, plan, seed % 4), track_by_hand(stops, seed % 4))

    def test_sixty_parts(self):
        job = stocked(some_job(2, 60, feeders=20, heads=1, side=300))
        plan = right_plan(Random(2), job, whole=True)
        self.assertIs(is_track(track_of(job, plan, 20)), True)

    def test_all_stays_and_the_told_list_is_the_askers_own(self):
        job, plan = copy.deepcopy(JOB), [ONE, TWO]
        told = track_of(job, plan, 1)
        again = list(told)
        told.clear()
        self.assertEqual((job, plan), (JOB, [ONE, TWO]))
        self.assertEqual(track_of(job, plan, 1), again)


class IsTrackTest(unittest.TestCase):
    def test_steps_of_one_more_one_less_and_none(self):
        for thing in [[0], [5], [-3], [10 ** 30], [0, 0], [0, 1], [1, 0], [-1, 0, 1, 1, 0], [7, 6, 5, 5, 6],
                      [10 ** 30, 10 ** 30 + 1]]:
            self.assertIs(is_track(thing), True, thing)

    def test_a_step_of_two(self):
        for thing in [[0, 2], [2, 0], [0, 1, 3], [0, 1, 2, 0], [5, 5, 5, 7, 7], [-1, 1], [0, 10 ** 30]]:
            self.assertIs(is_track(thing), False, thing)

    def test_what_is_no_list_of_numbers(self):
        for thing in [[], (), (1,), (1, 2), [True], [False, 0], [0, True], [1, None], ["1"], [[1]], [(1,)], "12", None,
                      [1, 2, "3"], [0, 1, [2]]]:
            self.assertIs(is_track(thing), False, thing)

    def test_anything_at_all(self):
        for thing in ODD_THINGS:
            tracks = isinstance(thing, list) and thing in ([1, 2], [0] * 5, [0] * 19999)
            self.assertIs(is_track(thing), tracks, repr(thing)[:60])

    def test_one_step_otherwise(self):
        track = [4, 5, 6, 5]
        for thing in otherwise(track):
            plain = isinstance(thing, list) and len(thing) > 0 and all(number.__class__ is int for number in thing)
            right = plain and all(abs(one - other) < 2 for one, other in zip(thing, thing[1:]))
            self.assertIs(is_track(thing), right, thing)

    def test_what_is_handed_in_stays(self):
        track = [1, 2, 1]
        is_track(track)
        self.assertEqual(track, [1, 2, 1])


if __name__ == "__main__":
    unittest.main()
