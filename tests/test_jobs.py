import unittest

from pickboard.jobs import ahead_of, behind_of, feeders_for, is_stocked, ring_in, wanted_of
from samples import AHEADS, BARE_JOB, FEEDERS, GATE, JOB, PARTS, board_of, closure_of, job_with, shortest_ring


def some_pairs(many, seed, size):
    """Pairs of unlike numbers, the same ones for the same seed."""
    pairs = []
    while len(pairs) < size:
        seed = (seed * 1103515245 + 12345) % 2 ** 31
        one, other = seed // 7 % many, seed // 7 // many % many
        if one != other:
            pairs.append((one, other))
    return pairs


class RingInTest(unittest.TestCase):
    def test_none_leads_round(self):
        self.assertIsNone(ring_in(0, []))
        self.assertIsNone(ring_in(1, []))
        self.assertIsNone(ring_in(60, []))
        self.assertIsNone(ring_in(4, [(0, 1), (1, 3), (2, 3), (0, 3)]))
        self.assertIsNone(ring_in(60, [(at, at + 1) for at in range(59)]))
        self.assertIsNone(ring_in(60, [(at + 1, at) for at in range(59)]))

    def test_a_round(self):
        self.assertEqual(ring_in(2, [(0, 1), (1, 0)]), [0, 1])
        self.assertEqual(ring_in(3, [(0, 1), (1, 2), (2, 0)]), [0, 1, 2])
        self.assertEqual(ring_in(3, [(0, 2), (2, 1), (1, 0)]), [0, 2, 1])

    def test_it_begins_with_its_least_part(self):
        self.assertEqual(ring_in(6, [(5, 4), (4, 3), (3, 5)]), [3, 5, 4])
        self.assertEqual(ring_in(60, [(59, 57), (57, 58), (58, 59)]), [57, 58, 59])

    def test_as_few_parts_as_can_be(self):
        self.assertEqual(ring_in(5, [(0, 1), (1, 2), (2, 0), (3, 4), (4, 3)]), [3, 4])
        self.assertEqual(ring_in(4, [(0, 1), (1, 2), (2, 3), (3, 0), (2, 0)]), [0, 1, 2])
        self.assertEqual(ring_in(5, [(0, 1), (1, 2), (2, 3), (3, 4), (4, 0), (3, 1)]), [1, 2, 3])

    def test_parts_that_lead_into_a_round_are_left_out(self):
        self.assertEqual(ring_in(5, [(0, 1), (1, 2), (2, 1), (2, 3), (3, 4)]), [1, 2])

    def test_of_several_the_least_list(self):
        self.assertEqual(ring_in(4, [(2, 3), (3, 2), (0, 1), (1, 0)]), [0, 1])
        self.assertEqual(ring_in(4, [(0, 3), (3, 0), (0, 2), (2, 0)]), [0, 2])
        self.assertEqual(ring_in(4, [(0, 3), (3, 1), (1, 0), (0, 2), (2, 3), (3, 0), (1, 2), (2, 1)]), [0, 3])
        self.assertEqual(ring_in(5, [(0, 1), (1, 4), (4, 0), (1, 3), (3, 0), (0, 2), (2, 4)]), [0, 1, 3])

    def test_the_least_next_part_that_leads_back_in_time(self):
        pairs = [(0, 1), (1, 2), (2, 3), (3, 0), (0, 4), (4, 5), (5, 0)]
        self.assertEqual(ring_in(6, pairs), [0, 4, 5])

    def test_pairs_that_come_several_times(self):
        self.assertEqual(ring_in(3, [(0, 1), (0, 1), (1, 2), (2, 0), (1, 2)]), [0, 1, 2])
        self.assertIsNone(ring_in(3, [(0, 1), (0, 1), (1, 2), (1, 2)]))

    def test_the_longest_round(self):
        pairs = [(at, (at + 1) % 60) for at in range(60)]
        self.assertEqual(ring_in(60, pairs), list(range(60)))
        self.assertEqual(ring_in(60, pairs[::-1]), list(range(60)))

    def test_all_pairs_of_sixty_parts(self):
        pairs = [(one, other) for one in range(59, -1, -1) for other in range(60) if one != other]
        self.assertEqual(ring_in(60, pairs), [0, 1])

    def test_every_choice_of_pairs_of_up_to_four_parts(self):
        for many in range(5):
            pairs = [(one, other) for one in range(many) for other in range(many) if one != other]
            for bits in range(2 ** len(pairs)):
                chosen = [pair for at, pair in enumerate(pairs) if bits >> at & 1]
                self.assertEqual(ring_in(many, chosen), shortest_ring(many, chosen), chosen)

    def test_some_pairs_of_more_parts(self):
        for seed in range(60):
            pairs = some_pairs(7, seed, 8 + seed % 4)
            self.assertEqual(ring_in(7, pairs), shortest_ring(7, pairs), pairs)

    def test_the_order_of_pairs_is_all_one(self):
        for seed in range(40):
            pairs = some_pairs(12, seed, 20)
            told = ring_in(12, pairs)
            self.assertEqual(ring_in(12, pairs[::-1]), told)
            self.assertEqual(ring_in(12, sorted(pairs)), told)

    def test_the_pairs_stay(self):
        pairs = [(2, 0), (0, 1), (1, 2), (0, 1)]
        ring_in(3, pairs)
        self.assertEqual(pairs, [(2, 0), (0, 1), (1, 2), (0, 1)])

    def test_told_the_same_after_the_told_list_is_changed(self):
        pairs = [(2, 0), (0, 1), (1, 2)]
        told = ring_in(3, pairs)
        told.append(9)
        told[0] = 7
        again = ring_in(3, pairs)
        self.assertEqual(again, [0, 1, 2])
        self.assertIsNot(again, told)
        self.assertIsNot(ring_in(3, pairs), again)


class AheadAndBehindTest(unittest.TestCase):
    def test_by_one_pair_and_by_several(self):
        self.assertEqual([ahead_of(JOB, part) for part in range(4)], [[], [0], [], [0, 1, 2]])
        self.assertEqual([behind_of(JOB, part) for part in range(4)], [[1, 3], [3], [3], []])

    def test_without_pairs(self):
        job = job_with(aheads=())
        for part in range(4):
            self.assertEqual(ahead_of(job, part), [])
            self.assertEqual(behind_of(job, part), [])

    def test_rising_and_each_once(self):
        aheads = ((3, 1), (2, 1), (1, 0), (3, 0), (2, 0), (3, 2), (3, 2))
        job = job_with(aheads=aheads)
        self.assertEqual([ahead_of(job, part) for part in range(4)], [[1, 2, 3], [2, 3], [3], []])
        self.assertEqual([behind_of(job, part) for part in range(4)], [[], [0], [0, 1], [0, 1, 2]])

    def test_a_long_row(self):
        job = job_with(parts=board_of(60), aheads=tuple((at + 1, at) for at in range(59)))
        for part in range(60):
            self.assertEqual(ahead_of(job, part), list(range(part + 1, 60)))
            self.assertEqual(behind_of(job, part), list(range(part)))

    def test_against_joined_pairs(self):
        for seed in range(40):
            pairs = [(max(pair), min(pair)) for pair in some_pairs(9, seed, 9)]
            job = job_with(parts=board_of(9), aheads=tuple(pairs))
            joined = closure_of(9, pairs)
            for part in range(9):
                self.assertEqual(ahead_of(job, part), sorted(one for one, other in joined if other == part))
                self.assertEqual(behind_of(job, part), sorted(other for one, other in joined if one == part))

    def test_told_lists_are_the_askers_own(self):
        for ask in [ahead_of, behind_of]:
            for part in range(4):
                told = ask(JOB, part)
                kept = list(told)
                told.append(9)
                again = ask(JOB, part)
                self.assertEqual(again, kept)
                self.assertIsNot(again, told)
                self.assertIsNot(ask(JOB, part), again)

    def test_the_job_stays(self):
        job = job_with()
        for part in range(4):
            ahead_of(job, part)
            behind_of(job, part)
        self.assertEqual(job, (GATE, 2, FEEDERS, PARTS, AHEADS))


class FeedersForTest(unittest.TestCase):
    def test_kinds_that_feeders_have(self):
        self.assertEqual(feeders_for(JOB, "chip"), [0, 2])
        self.assertEqual(feeders_for(JOB, "diode"), [1])
        self.assertEqual(feeders_for(JOB, "coil"), [3])

    def test_a_kind_that_none_has(self):
        for kind in ["a", "chi", "chips", "screw"]:
            self.assertEqual(feeders_for(JOB, kind), [])
        self.assertEqual(feeders_for(BARE_JOB, "chip"), [])

    def test_empty_feeders_count(self):
        job = job_with((("chip", (1, 2), 0), ("chip", (1, 2), 0)), (), ())
        self.assertEqual(feeders_for(job, "chip"), [0, 1])

    def test_all_twenty(self):
        job = job_with(tuple(("chip", (at, 0), 1) for at in range(20)), (), ())
        self.assertEqual(feeders_for(job, "chip"), list(range(20)))

    def test_the_told_list_is_the_askers_own(self):
        told = feeders_for(JOB, "chip")
        told.clear()
        again = feeders_for(JOB, "chip")
        self.assertEqual(again, [0, 2])
        self.assertIsNot(feeders_for(JOB, "chip"), again)


class WantedOfTest(unittest.TestCase):
    def test_how_many_of_each_kind(self):
        self.assertEqual(wanted_of(JOB), [("chip", 2), ("diode", 2)])

    def test_rising_by_kind(self):
        feeders = tuple((kind, (1, 2), 1) for kind in ["b", "ab", "a", "z"])
        parts = tuple((kind, (at, 9)) for at, kind in enumerate(["z", "b", "a", "z", "ab", "z"]))
        self.assertEqual(wanted_of(job_with(feeders, parts, ())), [("a", 1), ("ab", 1), ("b", 1), ("z", 3)])

    def test_of_no_parts(self):
        self.assertEqual(wanted_of(BARE_JOB), [])
        self.assertEqual(wanted_of(job_with(parts=(), aheads=())), [])

    def test_of_sixty_parts(self):
        self.assertEqual(wanted_of(job_with(parts=board_of(60), aheads=())), [("chip", 60)])

    def test_pairs_in_a_list_of_the_askers_own(self):
        told = wanted_of(JOB)
        self.assertIsInstance(told, list)
        for pair in told:
            self.assertIsInstance(pair, tuple)
        told.append(("x", 1))
        again = wanted_of(JOB)
        self.assertEqual(again, [("chip", 2), ("diode", 2)])
        self.assertIsNot(wanted_of(JOB), again)


class IsStockedTest(unittest.TestCase):
    def with_stock(self, *stock):
        feeders = tuple((kind, place, many) for (kind, place, old), many in zip(FEEDERS, stock))
        return job_with(feeders=feeders)

    def test_just_as_many(self):
        self.assertIs(is_stocked(self.with_stock(2, 2, 2, 0)), True)

    def test_more(self):
        self.assertIs(is_stocked(self.with_stock(3, 400, 2, 7)), True)
        self.assertIs(is_stocked(JOB), True)

    def test_one_fewer_in_any_feeder(self):
        self.assertIs(is_stocked(self.with_stock(1, 2, 2, 0)), False)
        self.assertIs(is_stocked(self.with_stock(2, 1, 2, 0)), False)
        self.assertIs(is_stocked(self.with_stock(2, 2, 1, 0)), False)

    def test_each_feeder_by_itself(self):
        self.assertIs(is_stocked(self.with_stock(1, 2, 1, 0)), False)
        self.assertIs(is_stocked(self.with_stock(400, 2, 0, 0)), False)

    def test_a_feeder_whose_kind_has_no_part(self):
        self.assertIs(is_stocked(self.with_stock(2, 2, 2, 0)), True)
        self.assertIs(is_stocked(self.with_stock(2, 2, 2, 400)), True)

    def test_without_parts_and_without_feeders(self):
        self.assertIs(is_stocked(BARE_JOB), True)
        self.assertIs(is_stocked(job_with((("chip", (1, 2), 0),), (), ())), True)

    def test_sixty_parts(self):
        for many, stocked in [(59, False), (60, True), (61, True)]:
            job = job_with((("chip", (1, 2), many),), board_of(60), ())
            self.assertIs(is_stocked(job), stocked, many)


if __name__ == "__main__":
    unittest.main()
