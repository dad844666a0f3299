import copy
import unittest
from itertools import permutations
from random import Random

from pickboard.plans import is_right, order_of, plan_way
from pickboard.runs import lies_right, run_plan, shows_run
from samples import (
    AHEADS, BARE_JOB, FEEDERS, FREE_JOB, GATE, JOB, ODD_THINGS, ONE, PARTS, TWO, closure_of, far, job_with, lists_in,
    lone, otherwise, put_at, right_plan, some_job, stocked,
)

PLAN = [ONE, TWO]


def stock_of(*many):
    """The sample feeders, with these numbers of parts."""
    return tuple((kind, place, have) for (kind, place, old), have in zip(FEEDERS, many))


def laid(part, job=JOB):
    return ("laid", part) + job[3][part]


def length(*places):
    return sum(far(one, other) for one, other in zip(places, places[1:]))


def run_by_hand(job, plan, luck, tries):
    """What run_plan should tell, reckoned with counters that go down."""
    joined = closure_of(len(job[3]), job[4])
    left = {at: row[2] for at, row in enumerate(job[2])}
    coins = list(luck)
    events, given, down, way = [], set(), [], 0

    def lost(part):
        return any(other == part and one in given for one, other in joined)

    def holder(part, own):
        if left[own]:
            return own
        kin = [at for at in left if job[2][at][0] == job[3][part][0] and left[at]]
        return kin[0] if kin else None

    for picks, lays in plan:
        spot, borne = job[0], set()
        for part, own in picks:
            word = "behind" if lost(part) else "failed"
            togo = 0 if lost(part) else tries
            while togo:
                feeder = holder(part, own)
                if feeder is None:
                    word = "none"
                    break
                left[feeder] -= 1
                togo -= 1
                way, spot = way + far(spot, job[2][feeder][1]), job[2][feeder][1]
                if not coins or coins.pop(0):
                    word = "picked"
                    borne.add(part)
                    events.append((word, part, feeder))
                    break
                events.append(("missed", part, feeder))
            if word != "picked":
                given.add(part)
                events.append((word, part))
        for part in lays:
            if part in borne and lost(part):
                given.add(part)
                events.append(("dropped", part))
            elif part in borne:
                kind, place = job[3][part]
                way, spot = way + far(spot, place), place
                down.append(part)
                events.append(("laid", part, kind, place))
        way += far(spot, job[0])
    return (events, sorted(down), sorted(given), way)


def some_runs():
    """Jobs with right plans, luck and tries."""
    for seed in range(400):
        chance = Random(seed)
        job = some_job(seed, seed % 11, kinds=1 + seed % 3, heads=1 + seed // 3 % 4, pairs=seed % 7, most=2 + seed % 5)
        many = chance.choice([0, 1, 5, 20, 60])
        luck = [chance.random() < chance.choice([0.2, 0.5, 0.8]) for step in range(many)]
        yield job, right_plan(chance, job), luck, 1 + seed % 5


class RunPlanTest(unittest.TestCase):
    def check(self, job, plan, luck, tries, events, down, given, way):
        self.assertIs(is_right(job, plan), True)
        told = run_plan(job, plan, luck, tries)
        self.assertIsInstance(told, tuple)
        self.assertEqual(told, (events, down, given, way))
        self.assertEqual(told, run_by_hand(job, plan, luck, tries))

    def test_all_luck(self):
        events = [("picked", 2, 2), ("picked", 0, 0), laid(0), laid(2),
                  ("picked", 1, 1), ("picked", 3, 1), laid(1), laid(3)]
        for luck in [[], [True], [True] * 4, [True] * 400]:
            for tries in range(1, 6):
                self.check(JOB, PLAN, luck, tries, events, [0, 1, 2, 3], [], plan_way(JOB, PLAN))

    def test_all_luck_with_any_right_plan(self):
        for job, plan, luck, tries in some_runs():
            events, down, given, way = run_plan(job, plan, [], tries)
            picks = [pick for row in plan for pick in row[0]]
            self.assertEqual([event[1:] for event in events if event[0] == "picked"], picks)
            self.assertEqual([event[1] for event in events if event[0] == "laid"], order_of(plan))
            self.assertEqual((down, given, way), (sorted(order_of(plan)), [], plan_way(job, plan)))
            self.assertEqual({event[0] for event in events} - {"picked", "laid"}, set())

    def test_missed_and_tried_again(self):
        events = [("missed", 2, 2), ("picked", 2, 2), ("picked", 0, 0), laid(0), laid(2)]
        # From feeder 2 to itself it's no way.
        self.check(JOB, [ONE], [False], 2, events, [0, 2], [], plan_way(JOB, [ONE]))
        self.check(JOB, [ONE], [False, True, True, False], 2, events, [0, 2], [], plan_way(JOB, [ONE]))

    def test_failed_behind_so_many_tries(self):
        job = put_at(FREE_JOB, 2, stock_of(9, 9, 9, 9))
        for tries in range(1, 6):
            missed = [("missed", 0, 0)] * tries
            self.check(job, [lone(0, 0)], [False] * tries, tries, missed + [("failed", 0)], [], [0], 20)
            self.check(job, [lone(0, 0)], [False] * 400, tries, missed + [("failed", 0)], [], [0], 20)
            self.check(job, [lone(0, 0)], [False] * (tries - 1), tries,
                       missed[1:] + [("picked", 0, 0), laid(0)], [0], [], 110)

    def test_luck_goes_on_from_pick_to_pick(self):
        events = [("missed", 2, 2), ("failed", 2), ("picked", 0, 0), laid(0)]
        self.check(FREE_JOB, [ONE], [False, True], 1, events, [0], [2], length(GATE, (30, 0), (10, 0), (5, 50), GATE))
        self.check(FREE_JOB, [ONE], [True, False], 1, [("picked", 2, 2), ("missed", 0, 0), ("failed", 0), laid(2)],
                   [2], [0], length(GATE, (30, 0), (10, 0), (25, 70), GATE))

    def test_luck_goes_on_from_trip_to_trip(self):
        plan = [lone(0, 0), lone(2, 2), lone(1, 1)]
        events = [("picked", 0, 0), laid(0), ("missed", 2, 2), ("failed", 2), ("picked", 1, 1), laid(1)]
        self.check(FREE_JOB, plan, [True, False, True], 1, events, [0, 1], [2], 110 + 60 + 140)

    def test_no_luck_is_spent_where_nothing_is_tried(self):
        # Part 1 must lie behind part 0, part 2 behind none.
        plan = [lone(0, 0), (((1, 1), (2, 0)), (1, 2))]
        job = job_with(aheads=((0, 1),))
        events = [("missed", 0, 0), ("failed", 0), ("behind", 1), ("missed", 2, 0), ("failed", 2)]
        self.check(job, plan, [False, False], 1, events, [], [0, 1, 2], 20 + 20)

    def test_each_try_takes_a_part(self):
        job = put_at(FREE_JOB, 2, stock_of(3, 2, 2, 1))
        events = [("missed", 0, 0), ("missed", 0, 0), ("picked", 0, 0), ("picked", 2, 2), laid(0), laid(2)]
        plan = [(((0, 0), (2, 0)), (0, 2))]
        self.check(job, plan, [False, False], 3, events, [0, 2], [],
                   length(GATE, (10, 0), (30, 0), (5, 50), (25, 70), GATE))

    def test_the_least_other_feeder_of_the_kind_that_has(self):
        feeders = (("chip", (1, 0), 0), ("coil", (2, 0), 9), ("chip", (3, 0), 1), ("chip", (4, 0), 1),
                   ("chip", (5, 0), 1))
        job = (GATE, 1, feeders, (("chip", (0, 9)),), ())
        lost = [False] * 9
        self.check(job, [lone(0, 3)], lost, 5, [("missed", 0, 3), ("missed", 0, 2), ("missed", 0, 4), ("none", 0)],
                   [], [0], length(GATE, (4, 0), (3, 0), (5, 0), GATE))
        self.check(job, [lone(0, 4)], lost, 2, [("missed", 0, 4), ("missed", 0, 2), ("failed", 0)],
                   [], [0], length(GATE, (5, 0), (3, 0), GATE))
        self.check(job, [lone(0, 4)], [False, False, True], 3, [("missed", 0, 4), ("missed", 0, 2), ("picked", 0, 3),
                                                               laid(0, job)], [0], [],
                   length(GATE, (5, 0), (3, 0), (4, 0), (0, 9), GATE))

    def test_ones_own_feeder_is_asked_ahead_of_a_lesser_one(self):
        job = put_at(FREE_JOB, 2, stock_of(3, 2, 2, 1))
        self.check(job, [lone(0, 2)], [False, False], 4, [("missed", 0, 2)] * 2 + [("picked", 0, 0), laid(0)],
                   [0], [], length(GATE, (30, 0), (10, 0), (5, 50), GATE))

    def test_none_where_all_of_the_kind_ran_out(self):
        job = (GATE, 2, (("chip", (3, 0), 2),), (("chip", (0, 9)), ("chip", (0, 8))), ())
        both = [(((0, 0), (1, 0)), (0, 1))]
        # Ahead of the first try of part 1, between two tries of part 1, and behind its last one.
        self.check(job, both, [False, True], 2, [("missed", 0, 0), ("picked", 0, 0), ("none", 1), laid(0, job)],
                   [0], [1], length(GATE, (3, 0), (0, 9), GATE))
        self.check(job, both, [True, False], 2, [("picked", 0, 0), ("missed", 1, 0), ("none", 1), laid(0, job)],
                   [0], [1], length(GATE, (3, 0), (0, 9), GATE))
        self.check(job, both, [True, False], 1, [("picked", 0, 0), ("missed", 1, 0), ("failed", 1), laid(0, job)],
                   [0], [1], length(GATE, (3, 0), (0, 9), GATE))
        self.check(job, [lone(0, 0), lone(1, 0)], [False, False], 2,
                   [("missed", 0, 0), ("missed", 0, 0), ("failed", 0), ("none", 1)], [], [0, 1], 6)

    def test_feeders_of_other_kinds_do_not_help(self):
        job = put_at(FREE_JOB, 2, stock_of(400, 1, 400, 400))
        self.check(job, [lone(1, 1)], [False], 5, [("missed", 1, 1), ("none", 1)], [], [1], 40)

    def test_behind_one_given_up_in_the_same_trip_and_in_one_ahead(self):
        job = job_with(aheads=((0, 2), (2, 3)))
        together = [(((0, 0), (2, 2)), (0, 2)), lone(3, 1)]
        events = [("missed", 0, 0), ("failed", 0), ("behind", 2), ("behind", 3)]
        self.check(job, together, [False], 1, events, [], [0, 2, 3], 20)
        apart = [lone(0, 0), lone(2, 2), lone(1, 1), lone(3, 1)]
        events = [("missed", 0, 0), ("failed", 0), ("behind", 2), ("picked", 1, 1), laid(1), ("behind", 3)]
        self.check(job, apart, [False], 1, events, [1], [0, 2, 3], 20 + 140)

    def test_behind_by_several_pairs_over_a_part_that_is_laid(self):
        # Part 3 must lie behind 0 by 1 alone; 1 is given up by 0, and 3 then by both.
        job = job_with(aheads=((0, 1), (1, 3)))
        plan = [lone(0, 0), (((1, 1), (3, 1)), (1, 3))]
        self.check(job, plan, [False], 1, [("missed", 0, 0), ("failed", 0), ("behind", 1), ("behind", 3)],
                   [], [0, 1, 3], 20)

    def test_dropped_behind_one_given_up_at_a_later_pick(self):
        # Part 2 is picked first, but must lie behind part 0.
        job = job_with(aheads=((0, 2),))
        events = [("picked", 2, 2), ("missed", 0, 0), ("failed", 0), ("dropped", 2)]
        self.check(job, [ONE], [True, False], 1, events, [], [0, 2], length(GATE, (30, 0), (10, 0), GATE))

    def test_dropped_behind_one_given_up_at_a_lay(self):
        job = (GATE, 3, FEEDERS, PARTS, ((0, 1), (1, 2), (3, 2)))
        plan = [lone(3, 1), (((2, 2), (1, 1), (0, 0)), (0, 1, 2))]
        events = [("picked", 3, 1), laid(3), ("picked", 2, 2), ("picked", 1, 1), ("missed", 0, 0), ("failed", 0),
                  ("dropped", 1), ("dropped", 2)]
        self.check(job, plan, [True, True, True, False], 1, events, [3], [0, 1, 2],
                   length(GATE, (20, 0), (35, 80), GATE) + 30 + 20 + 10)

    def test_parts_given_up_behind_it_do_not_matter(self):
        plan = [lone(0, 0), lone(1, 1)]
        job = job_with(aheads=((0, 1),))
        self.check(job, plan, [True, False], 1, [("picked", 0, 0), laid(0), ("missed", 1, 1), ("failed", 1)],
                   [0], [1], 110 + 40)

    def test_laid_and_given_rise(self):
        plan = [lone(3, 1), lone(2, 0), lone(1, 1), lone(0, 0)]
        events, down, given, way = run_plan(FREE_JOB, plan, [True, False, True, False], 1)
        self.assertEqual((down, given), ([1, 3], [0, 2]))
        self.assertEqual([event[1] for event in events if event[0] == "laid"], [3, 1])

    def test_the_plan_without_trips(self):
        for job in [JOB, BARE_JOB]:
            for luck in [[], [False, True]]:
                self.check(job, [], luck, 1, [], [], [], 0)

    def test_some_runs_reckoned_otherwise(self):
        words = set()
        for job, plan, luck, tries in some_runs():
            told = run_plan(job, plan, luck, tries)
            self.assertEqual(told, run_by_hand(job, plan, luck, tries), (job, plan, luck, tries))
            words |= {event[0] for event in told[0]}
        self.assertEqual(words, {"behind", "picked", "missed", "none", "failed", "dropped", "laid"})

    def test_sixty_parts(self):
        for seed in range(6):
            chance = Random(seed)
            job = some_job(seed, 60, feeders=20, kinds=4, heads=1 + seed % 4, pairs=40 * seed, most=40, side=30)
            plan = right_plan(chance, job, whole=True)
            luck = [chance.random() < 0.5 for step in range(400)]
            self.assertEqual(run_plan(job, plan, luck, 5), run_by_hand(job, plan, luck, 5))

    def test_every_part_is_laid_once_or_given_up(self):
        for job, plan, luck, tries in some_runs():
            events, down, given, way = run_plan(job, plan, luck, tries)
            self.assertEqual(sorted(down + given), sorted(order_of(plan)))
            self.assertEqual(sorted(event[1] for event in events if event[0] == "laid"), down)
            self.assertIs(lies_right(job, events), True)

    def test_all_stays_and_what_is_told_is_the_askers_own(self):
        job, plan, luck = copy.deepcopy(JOB), copy.deepcopy(PLAN), [True, False, False]
        told = run_plan(job, plan, luck, 2)
        again = copy.deepcopy(told)
        self.assertEqual(len({id(one) for one in lists_in(told)}), 3)
        for one in lists_in(told):
            one.append(5)
        self.assertEqual((job, plan, luck), (JOB, PLAN, [True, False, False]))
        self.assertEqual(run_plan(job, plan, luck, 2), again)


class ShowsRunTest(unittest.TestCase):
    CASES = [
        (JOB, PLAN, [], 1),
        (JOB, PLAN, [False, True, False, False], 2),
        (JOB, PLAN, [True, False, False, True], 2),
        (job_with(aheads=((0, 2),)), [ONE], [True, False], 1),
        (JOB, [], [], 3),
    ]

    def test_what_run_plan_tells(self):
        for job, plan, luck, tries in self.CASES:
            self.assertIs(shows_run(job, plan, luck, tries, run_plan(job, plan, luck, tries)), True)
        for job, plan, luck, tries in some_runs():
            self.assertIs(shows_run(job, plan, luck, tries, run_by_hand(job, plan, luck, tries)), True)

    def test_by_hand(self):
        events = [("missed", 0, 0), ("picked", 0, 0), laid(0)]
        self.assertIs(shows_run(FREE_JOB, [lone(0, 0)], [False], 2, (events, [0], [], 110)), True)
        self.assertIs(shows_run(FREE_JOB, [lone(0, 0)], [False], 2, (events, [0], [], 111)), False)
        self.assertIs(shows_run(FREE_JOB, [lone(0, 0)], [False], 1, (events, [0], [], 110)), False)
        self.assertIs(shows_run(FREE_JOB, [lone(0, 0)], [], 2, (events, [0], [], 110)), False)

    def test_one_step_otherwise(self):
        for job, plan, luck, tries in self.CASES:
            told = run_plan(job, plan, luck, tries)
            for thing in otherwise(told):
                self.assertIs(shows_run(job, plan, luck, tries, thing), False, thing)

    def test_true_is_no_number(self):
        job = (GATE, 1, (("a", (1, 0), 3),), (("a", (0, 1)), ("a", (1, 1))), ())
        plan = [lone(1, 0), lone(0, 0)]
        events = [("picked", 1, 0), ("laid", 1, "a", (1, 1)), ("picked", 0, 0), ("laid", 0, "a", (0, 1))]
        self.assertIs(shows_run(job, plan, [], 1, (events, [0, 1], [], 6)), True)
        for at, other in [(0, ("picked", True, 0)), (0, ("picked", 1, False)), (1, ("laid", True, "a", (1, 1))),
                          (1, ("laid", 1, "a", (True, 1))), (3, ("laid", 0, "a", (False, True)))]:
            self.assertIs(shows_run(job, plan, [], 1, (events[:at] + [other] + events[at + 1:], [0, 1], [], 6)), False)
        self.assertIs(shows_run(job, plan, [], 1, (events, [False, True], [], 6)), False)

    def test_anything_at_all(self):
        for job, plan, luck, tries in self.CASES:
            for thing in ODD_THINGS:
                self.assertIs(shows_run(job, plan, luck, tries, thing), False, repr(thing)[:60])

    def test_what_is_handed_in_stays(self):
        job, plan, luck, tries = copy.deepcopy(self.CASES[1])
        thing = run_plan(job, plan, luck, tries)
        kept = copy.deepcopy(thing)
        shows_run(job, plan, luck, tries, thing)
        self.assertEqual((job, plan, luck, thing), (JOB, PLAN, [False, True, False, False], kept))


class LiesRightTest(unittest.TestCase):
    def test_what_run_plan_tells(self):
        for job, plan, luck, tries in some_runs():
            self.assertIs(lies_right(job, run_plan(job, plan, luck, tries)[0]), True)

    def test_no_events_at_all(self):
        self.assertIs(lies_right(JOB, []), True)
        self.assertIs(lies_right(BARE_JOB, []), True)

    def test_all_orders(self):
        joined = closure_of(4, AHEADS)
        for size in range(5):
            for order in permutations(range(4), size):
                right = all(one in order[:order.index(other)] for one, other in joined if other in order)
                self.assertIs(lies_right(JOB, [laid(part) for part in order]), right, order)
                self.assertIs(lies_right(FREE_JOB, [laid(part) for part in order]), True)

    def test_a_part_laid_twice(self):
        self.assertIs(lies_right(FREE_JOB, [laid(0), laid(0)]), False)
        self.assertIs(lies_right(FREE_JOB, [laid(0), laid(1), laid(2), laid(1)]), False)
        self.assertIs(lies_right(JOB, [laid(0), laid(1), laid(0)]), False)

    def test_of_another_kind_or_at_another_place(self):
        for event in [("laid", 0, "diode", (5, 50)), ("laid", 0, "coil", (5, 50)), ("laid", 0, "chip", (5, 51)),
                      ("laid", 0, "chip", (50, 5)), ("laid", 0, "chip", (25, 70)), ("laid", 0, "diode", (15, 60))]:
            self.assertIs(lies_right(FREE_JOB, [event]), False, event)
            self.assertIs(lies_right(FREE_JOB, [laid(1), event, laid(2)]), False, event)
            self.assertIs(lies_right(FREE_JOB, [laid(1), laid(2), event]), False, event)

    def test_a_part_that_there_is_not(self):
        for part in [4, 5, 60, 10 ** 30, -1, -4, -5]:
            for place in [PARTS[0], PARTS[3]]:
                self.assertIs(lies_right(FREE_JOB, [("laid", part) + place]), False, part)
                self.assertIs(lies_right(FREE_JOB, [laid(0), ("laid", part) + place]), False, part)
        self.assertIs(lies_right(BARE_JOB, [("laid", 0, "chip", (5, 50))]), False)

    def test_one_that_must_lie_ahead_by_several_pairs(self):
        job = job_with(aheads=((0, 1), (1, 3)))
        self.assertIs(lies_right(job, [laid(0), laid(1), laid(3)]), True)
        self.assertIs(lies_right(job, [laid(1), laid(3)]), False)
        self.assertIs(lies_right(job, [laid(0), laid(3)]), False)
        self.assertIs(lies_right(job, [laid(3)]), False)
        self.assertIs(lies_right(job, [laid(1), laid(0)]), False)
        self.assertIs(lies_right(job, [laid(2)]), True)

    def test_events_of_other_words_do_not_matter(self):
        others = [("behind", 1), ("picked", 3, 1), ("missed", 99, 5), ("none", 3), ("failed", 0), ("dropped", 0),
                  ("picked", -7, -7), ("picked", 0, 3)]
        self.assertIs(lies_right(JOB, others), True)
        self.assertIs(lies_right(JOB, others + [laid(0)] + others + [laid(1)] + others), True)
        self.assertIs(lies_right(JOB, others + [laid(1)] + others + [laid(0)] + others), False)
        # A part that was picked isn't laid for that.
        self.assertIs(lies_right(JOB, [("picked", 0, 0), laid(1)]), False)

    def test_sixty_parts(self):
        job = stocked(some_job(1, 60, feeders=20, kinds=4, heads=4, pairs=150, side=30))
        events = run_plan(job, right_plan(Random(1), job, whole=True), [], 1)[0]
        self.assertIs(lies_right(job, events), True)
        self.assertIs(lies_right(job, events[::-1]), False)

    def test_what_is_handed_in_stays(self):
        events = [laid(1), ("picked", 0, 0), laid(0)]
        kept = copy.deepcopy(events)
        lies_right(JOB, events)
        self.assertEqual(events, kept)


if __name__ == "__main__":
    unittest.main()
