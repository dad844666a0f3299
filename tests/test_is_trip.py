import unittest

from pickboard.plans import is_trip
from samples import BARE_JOB, FEEDERS, GATE, JOB, ODD_THINGS, PARTS, board_of, job_with, put_at

# Four heads, so that several picks can be wrong by themselves.
WIDE_JOB = put_at(JOB, 1, 4)
TRIP = (((0, 0), (3, 1)), (3, 0))
NO_NUMBERS = [True, False, None, "1", "", (), (1,), (0,), [], [1], ((0, 0),)]


class Base(unittest.TestCase):
    def holds(self, thing, job=JOB):
        self.assertIs(is_trip(job, thing), True, repr(thing)[:300])

    def fails(self, thing, job=JOB):
        self.assertIs(is_trip(job, thing), False, repr(thing)[:300])


class RightTripsTest(Base):
    def test_one_pick_to_as_many_as_heads(self):
        self.holds((((0, 0),), (0,)))
        self.holds(TRIP)
        self.holds((((0, 0), (3, 1), (1, 1)), (3, 0, 1)), WIDE_JOB)
        self.holds((((0, 0), (3, 1), (1, 1), (2, 2)), (1, 3, 2, 0)), WIDE_JOB)

    def test_one_head(self):
        job = put_at(JOB, 1, 1)
        self.holds((((3, 1),), (3,)), job)
        self.fails(TRIP, job)

    def test_lays_in_any_order(self):
        for lays in [(0, 3), (3, 0)]:
            self.holds(put_at(TRIP, 1, lays))

    def test_orders_that_no_right_plan_has(self):
        self.holds((((3, 1), (0, 0)), (3, 0)))
        self.holds((((3, 1),), (3,)))

    def test_a_feeder_of_another_kind_is_let(self):
        for part in range(4):
            for feeder in range(4):
                self.holds((((part, feeder),), (part,)))

    def test_a_feeder_with_none_left_is_let(self):
        job = job_with(feeders=(("chip", (1, 1), 0), ("diode", (1, 1), 0)))
        self.holds((((0, 0), (2, 0)), (0, 2)), job)

    def test_the_last_part_and_the_last_feeder(self):
        job = (GATE, 4, tuple(("chip", (at, 0), 1) for at in range(20)), board_of(60), ())
        self.holds((((59, 19), (0, 0), (1, 19), (58, 0)), (1, 58, 59, 0)), job)
        self.fails((((60, 19),), (60,)), job)
        self.fails((((59, 20),), (59,)), job)


class WholeTest(Base):
    def test_anything(self):
        for thing in ODD_THINGS:
            self.fails(thing)
            self.fails(thing, BARE_JOB)
            self.fails([thing])
            self.fails((thing,))
            self.fails((thing, thing))

    def test_anything_in_place_of_picks_and_lays(self):
        for thing in ODD_THINGS:
            self.fails((thing, TRIP[1]))
            self.fails((TRIP[0], thing))

    def test_other_numbers_of_things(self):
        self.fails(())
        self.fails(TRIP[:1])
        self.fails(TRIP + ((),))
        self.fails(TRIP + TRIP[1:])
        self.fails((TRIP,))

    def test_a_list_for_the_tuple(self):
        self.fails(list(TRIP))
        self.fails([TRIP])

    def test_no_pick(self):
        self.fails(((), ()))
        self.fails(((), (0,)))
        self.fails(([], []))
        self.fails(((), ()), BARE_JOB)

    def test_one_more_pick_than_heads(self):
        self.fails((((0, 0), (3, 1), (1, 1)), (3, 0, 1)))
        parts = PARTS + (("chip", (1, 1)),)
        five = tuple((part, 0) for part in range(5))
        self.fails((five, (0, 1, 2, 3, 4)), (GATE, 4, FEEDERS, parts, ()))
        self.holds((five[1:], (1, 2, 3, 4)), (GATE, 4, FEEDERS, parts, ()))

    def test_picks_and_lays_exchanged(self):
        self.fails((TRIP[1], TRIP[0]))


class PicksTest(Base):
    def with_pick(self, pick):
        """A trip whose second pick is another one, the lays being of parts 0 and 3 still."""
        return (((0, 0), pick, (1, 1)), (3, 0, 1))

    def test_a_list_for_the_picks(self):
        self.fails((list(TRIP[0]), TRIP[1]))

    def test_no_pairs(self):
        self.holds(self.with_pick((3, 1)), WIDE_JOB)
        for pick in [(), (3,), (3, 1, 1), [3, 1], 3, None, True, "ab", "", ((3, 1),), ([3], 1), (3, [1])]:
            self.fails(self.with_pick(pick), WIDE_JOB)

    def test_a_pick_that_is_anything(self):
        for thing in ODD_THINGS:
            self.fails(self.with_pick(thing), WIDE_JOB)

    def test_a_part_that_there_is_not(self):
        for part in [-1, 4, 5, 10 ** 30, -4]:
            self.fails((((part, 0),), (part,)))
            self.fails((((0, 0), (part, 1)), (part, 0)))
        self.fails((((0, 0),), (0,)), job_with(parts=(), aheads=()))

    def test_a_feeder_that_there_is_not(self):
        for feeder in [-1, 4, 5, 10 ** 30, -4]:
            self.fails((((0, feeder),), (0,)))
            self.fails((((0, 0), (3, feeder)), (3, 0)))

    def test_no_number_for_a_part(self):
        for part in NO_NUMBERS:
            self.fails((((part, 0),), (part,)))
            self.fails((((part, 0),), (0,)))
            self.fails((((part, 0),), (1,)))
        self.fails((((True, 0),), (1,)))
        self.fails((((False, 0),), (0,)))

    def test_no_number_for_a_feeder(self):
        for feeder in NO_NUMBERS:
            self.fails((((0, feeder),), (0,)))

    def test_a_part_twice(self):
        self.fails((((0, 0), (0, 0)), (0, 0)))
        self.fails((((0, 0), (0, 2)), (0, 0)))
        self.fails((((0, 0), (0, 2)), (0,)))
        self.fails((((0, 0), (3, 1), (0, 0)), (0, 3, 0)), WIDE_JOB)
        self.fails((((0, 0), (3, 1), (0, 2)), (0, 3)), WIDE_JOB)

    def test_a_feeder_twice_is_let(self):
        self.holds((((0, 0), (2, 0)), (2, 0)))


class LaysTest(Base):
    def test_a_list_for_the_lays(self):
        self.fails((TRIP[0], list(TRIP[1])))

    def test_lays_of_other_parts(self):
        for lays in [(1, 2), (0, 1), (3, 1), (2, 3), (0, 4), (-1, 0), (3, 10 ** 30)]:
            self.fails((TRIP[0], lays))

    def test_a_part_twice_in_the_lays(self):
        for lays in [(0, 0), (3, 3), (0, 3, 0), (0, 3, 3), (0, 0, 3, 3)]:
            self.fails((TRIP[0], lays))
            self.fails((TRIP[0], lays), WIDE_JOB)

    def test_a_part_left_out(self):
        for lays in [(), (0,), (3,)]:
            self.fails((TRIP[0], lays))

    def test_one_part_more(self):
        self.fails((TRIP[0], (0, 3, 1)))
        self.fails((TRIP[0], (0, 1, 3)), WIDE_JOB)

    def test_no_numbers(self):
        trip = (((0, 0), (1, 1)), (0, 1))
        self.holds(trip)
        self.fails((trip[0], (0, True)))
        self.fails((trip[0], (False, 1)))
        self.fails((trip[0], (False, True)))
        for thing in NO_NUMBERS + ODD_THINGS:
            if isinstance(thing, bool) or thing not in [0, 1]:
                self.fails((trip[0], (0, thing)))
                self.fails((trip[0], (thing, 1)))

    def test_pairs_for_numbers(self):
        self.fails((TRIP[0], TRIP[0]))


if __name__ == "__main__":
    unittest.main()
