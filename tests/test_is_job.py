import unittest

from pickboard.jobs import is_job
from samples import (
    AHEADS, BARE_JOB, FEEDERS, GATE, JOB, ODD_THINGS, PARTS, board_of, closure_of, job_with, put_at,
)

# None of these is a whole number.
NO_NUMBERS = [True, False, None, "1", "", (), (1,), [], [1]]
NO_NAMES = ["", "abcdefghi", "Chip", "chi p", "chip\n", "chip1", None, True, 5, [], ["chip"], (), ("chip",)]
NO_PLACES = [
    (-1, 0), (0, -1), (1001, 0), (0, 1001), (True, 0), (0, False), [1, 2], (1,), (1, 2, 3), (),
    None, 5, True, "ab", ("1", 2), (1, "2"), ((1, 2), 3), (None, 1), ([1], 2),
]


def chain(many):
    return tuple((at, at + 1) for at in range(many))


class Base(unittest.TestCase):
    def holds(self, thing):
        self.assertIs(is_job(thing), True, repr(thing)[:300])

    def fails(self, thing):
        self.assertIs(is_job(thing), False, repr(thing)[:300])


class WholeTest(Base):
    def test_right_jobs(self):
        self.holds(JOB)
        self.holds(BARE_JOB)
        self.holds((GATE, 1, FEEDERS, (), ()))
        self.holds((GATE, 1, FEEDERS, PARTS, ()))

    def test_anything(self):
        for thing in ODD_THINGS:
            self.fails(thing)

    def test_anything_in_place_of_each_field(self):
        for at in range(5):
            for thing in ODD_THINGS:
                is_right = (at == 1 and thing == 1 and thing is not True) or (at == 4 and thing == ())
                self.assertIs(is_job(put_at(JOB, at, thing)), is_right, (at, repr(thing)[:60]))

    def test_other_numbers_of_things(self):
        for many in range(5):
            self.fails(JOB[:many])
        self.fails(JOB + ((),))
        self.fails(JOB + (None,))

    def test_a_list_for_the_tuple(self):
        self.fails(list(JOB))
        self.fails([JOB])
        self.fails((JOB,))

    def test_lists_for_tuples_within(self):
        for at in [0, 2, 3, 4]:
            self.fails(put_at(JOB, at, list(JOB[at])))

    def test_lists_for_empty_tuples(self):
        for at in [2, 3, 4]:
            self.fails(put_at(BARE_JOB, at, []))
            self.fails(put_at(BARE_JOB, at, None))
            self.fails(put_at(BARE_JOB, at, ""))

    def test_the_job_stays_and_is_told_the_same_again(self):
        thing = (GATE, 2, FEEDERS, PARTS, ((0, 1), (0, 1), (1, 0)))
        for asked in range(3):
            self.fails(thing)
            self.holds(JOB)
        self.assertEqual(thing, (GATE, 2, FEEDERS, PARTS, ((0, 1), (0, 1), (1, 0))))


class GateAndHeadsTest(Base):
    def test_gates(self):
        for gate in [(0, 0), (1000, 1000), (0, 1000), (5, 50)]:
            self.holds(put_at(JOB, 0, gate))
        for gate in NO_PLACES:
            self.fails(put_at(JOB, 0, gate))

    def test_heads(self):
        for heads in [1, 2, 3, 4]:
            self.holds(put_at(JOB, 1, heads))
        for heads in [0, 5, -1, 60, 10 ** 30] + NO_NUMBERS:
            self.fails(put_at(JOB, 1, heads))


class FeedersTest(Base):
    def with_feeder(self, feeder):
        return job_with(feeders=FEEDERS + (feeder,))

    def test_how_many(self):
        feeders = tuple(("chip", (at, 0), 1) for at in range(21))
        self.holds(job_with(feeders[:20], (), ()))
        self.fails(job_with(feeders, (), ()))
        self.holds(job_with(feeders[:1], (), ()))

    def test_kinds(self):
        for kind in ["a", "z", "abcdefgh", "chip"]:
            self.holds(self.with_feeder((kind, (1, 2), 3)))
        for kind in NO_NAMES:
            self.fails(self.with_feeder((kind, (1, 2), 3)))

    def test_places(self):
        for place in [(0, 0), (1000, 1000), (10, 0), (5, 50)]:
            self.holds(self.with_feeder(("chip", place, 3)))
        for place in NO_PLACES:
            self.fails(self.with_feeder(("chip", place, 3)))

    def test_like_feeders(self):
        self.holds(job_with(feeders=FEEDERS + FEEDERS))

    def test_how_many_parts_each_has(self):
        for many in [0, 1, 399, 400]:
            self.holds(self.with_feeder(("chip", (1, 2), many)))
        for many in [-1, 401, 10 ** 30] + NO_NUMBERS:
            self.fails(self.with_feeder(("chip", (1, 2), many)))

    def test_other_numbers_of_things_and_other_kinds(self):
        right = ("chip", (1, 2), 3)
        self.holds(self.with_feeder(right))
        for thing in [right[:2], right[:1], (), right + (4,), right + (None,), list(right), (right,), None, "chip", 3]:
            self.fails(self.with_feeder(thing))

    def test_a_wrong_one_anywhere(self):
        for at in range(len(FEEDERS)):
            self.fails(job_with(feeders=put_at(FEEDERS, at, list(FEEDERS[at]))))
            self.fails(job_with(feeders=put_at(FEEDERS, at, put_at(FEEDERS[at], 2, 401))))


class PartsTest(Base):
    def with_part(self, part):
        return job_with(parts=PARTS + (part,))

    def test_how_many(self):
        self.holds(job_with(parts=board_of(60), aheads=()))
        self.fails(job_with(parts=board_of(61), aheads=()))
        self.holds(job_with(parts=board_of(1), aheads=()))

    def test_kinds(self):
        for kind in ["chip", "diode", "coil"]:
            self.holds(self.with_part((kind, (1, 2))))
        for kind in NO_NAMES + ["a", "chi", "chips", "screw"]:
            self.fails(self.with_part((kind, (1, 2))))

    def test_a_kind_of_an_empty_feeder_will_do(self):
        self.holds(job_with((("chip", (1, 2), 0),), (("chip", (3, 4)),), ()))

    def test_a_kind_without_a_feeder(self):
        self.fails(job_with((), (("chip", (3, 4)),), ()))
        self.fails(job_with((("coil", (1, 2), 5),), (("chip", (3, 4)),), ()))

    def test_places(self):
        for place in [(0, 0), (1000, 1000), (10, 0)]:
            self.holds(self.with_part(("chip", place)))
        for place in NO_PLACES:
            self.fails(self.with_part(("chip", place)))

    def test_two_at_like_places(self):
        for part in PARTS:
            for kind in ["chip", "diode", "coil"]:
                self.fails(self.with_part((kind, part[1])))
        self.holds(self.with_part(("chip", (50, 5))))
        self.fails(job_with(parts=board_of(59) + (("diode", (58, 7)),), aheads=()))

    def test_other_numbers_of_things_and_other_kinds(self):
        right = ("chip", (1, 2))
        self.holds(self.with_part(right))
        for thing in [right[:1], (), right + (4,), right + (None,), list(right), (right,), None, "chip", 3, (1, 2)]:
            self.fails(self.with_part(thing))

    def test_a_wrong_one_anywhere(self):
        for at in range(len(PARTS)):
            self.fails(job_with(parts=put_at(PARTS, at, list(PARTS[at]))))
            self.fails(job_with(parts=put_at(PARTS, at, put_at(PARTS[at], 1, (0, 1001)))))


class AheadsTest(Base):
    def with_pair(self, pair):
        return job_with(aheads=AHEADS + (pair,))

    def test_how_many(self):
        self.holds(job_with(aheads=((0, 1),) * 200))
        self.fails(job_with(aheads=((0, 1),) * 201))
        pairs = tuple((one, other) for other in range(60) for one in range(other))
        self.holds(job_with(parts=board_of(60), aheads=pairs[:200]))
        self.fails(job_with(parts=board_of(60), aheads=pairs[:201]))

    def test_a_pair_may_come_several_times(self):
        self.holds(job_with(aheads=((0, 1), (0, 1))))
        self.holds(job_with(aheads=AHEADS * 5))

    def test_numbers_of_parts(self):
        self.holds(self.with_pair((0, 3)))
        self.holds(job_with(aheads=((3, 0),)))
        for other in [4, 5, -1, -4, 10 ** 30] + NO_NUMBERS:
            self.fails(job_with(aheads=((other, 2),)))
            self.fails(job_with(aheads=((2, other),)))
        self.holds(job_with(parts=board_of(60), aheads=((59, 0),)))
        self.fails(job_with(parts=board_of(60), aheads=((60, 0),)))
        self.fails(job_with(parts=board_of(59), aheads=((0, 59),)))
        self.fails(job_with(parts=(), aheads=((0, 1),)))

    def test_like_numbers(self):
        for part in range(4):
            self.fails(job_with(aheads=((part, part),)))
            self.fails(self.with_pair((part, part)))

    def test_other_numbers_of_things_and_other_kinds(self):
        for thing in [(0,), (), (0, 1, 2), [0, 1], ((0, 1),), None, 0, True, "01", "", (0, (1,)), (0, "1")]:
            self.fails(job_with(aheads=(thing,)))
            self.fails(self.with_pair(thing))

    def test_a_wrong_one_anywhere(self):
        for at in range(len(AHEADS)):
            self.fails(job_with(aheads=put_at(AHEADS, at, list(AHEADS[at]))))
            self.fails(job_with(aheads=put_at(AHEADS, at, (3, 4))))


class RoundTest(Base):
    def test_round_by_two(self):
        self.fails(job_with(aheads=((0, 1), (1, 0))))
        self.fails(job_with(aheads=AHEADS + ((3, 2),)))

    def test_round_by_three(self):
        self.fails(job_with(aheads=((0, 1), (1, 2), (2, 0))))
        self.fails(job_with(aheads=AHEADS + ((3, 0),)))

    def test_round_by_more(self):
        for many in range(2, 61):
            parts = board_of(many)
            self.holds(job_with(parts=parts, aheads=chain(many - 1)))
            self.fails(job_with(parts=parts, aheads=chain(many - 1) + ((many - 1, 0),)))

    def test_a_round_far_from_the_first_parts(self):
        parts = board_of(60)
        self.fails(job_with(parts=parts, aheads=((0, 1), (57, 58), (58, 59), (59, 57))))
        self.holds(job_with(parts=parts, aheads=((0, 1), (57, 58), (58, 59), (57, 59))))

    def test_two_ways_to_one_part_are_no_round(self):
        self.holds(job_with(aheads=((0, 1), (0, 2), (1, 3), (2, 3), (0, 3))))

    def test_all_pairs_of_three_parts(self):
        pairs = [(one, other) for one in range(3) for other in range(3) if one != other]
        for bits in range(64):
            aheads = tuple(pair for at, pair in enumerate(pairs) if bits >> at & 1)
            leads_round = any(one == other for one, other in closure_of(3, aheads))
            self.assertIs(is_job(job_with(aheads=aheads)), not leads_round, aheads)


if __name__ == "__main__":
    unittest.main()
