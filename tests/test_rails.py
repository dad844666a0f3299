import copy
import unittest
from itertools import product
from random import Random

from pickboard.rails import meets_at, moves_together, never_moves, shows_never, shows_together
from pickboard.tracks import is_track
from samples import ODD_THINGS, lists_in, otherwise

STEPS = {"both": (1, 1), "left": (1, 0), "right": (0, 1)}


def near(left, right, gap, i, j):
    return left[i] + gap > right[j]


def comes_through(left, right, gap, moves):
    """Whether moves, walked one by one, are never too near and come to both ends."""
    i, j = 0, 0
    if near(left, right, gap, i, j):
        return False
    for move in moves:
        i, j = i + STEPS[move][0], j + STEPS[move][1]
        if i >= len(left) or j >= len(right) or near(left, right, gap, i, j):
            return False
    return (i, j) == (len(left) - 1, len(right) - 1)


def all_moves(left, right):
    """All rows of moves from (0, 0) to both ends, whether they are too near or not."""
    def onward(i, j):
        if (i, j) == (len(left) - 1, len(right) - 1):
            yield []
        for word, (one, other) in STEPS.items():
            if i + one < len(left) and j + other < len(right):
                for rest in onward(i + one, j + other):
                    yield [word] + rest
    return onward(0, 0)


def some_track(chance, many, start):
    track = [start]
    while len(track) < many:
        track.append(track[-1] + chance.choice([-1, -1, 0, 1, 1]))
    return track


def small_tracks():
    """Tracks of one to five numbers, with gaps."""
    for seed in range(300):
        chance = Random(seed)
        left = some_track(chance, chance.randint(1, 5), 3)
        right = some_track(chance, chance.randint(1, 5), chance.randint(2, 6))
        yield left, right, chance.choice([0, 1, 2])


def greater_tracks():
    """Tracks of up to thirty numbers, with gaps."""
    for seed in range(200):
        chance = Random(seed)
        left = some_track(chance, chance.randint(1, 30), 10)
        right = some_track(chance, chance.randint(1, 30), 10 + chance.randint(0, 6))
        yield left, right, chance.choice([0, 1, 3])


def fewest_by_table(left, right, gap):
    """For each pair the fewest moves that lead to it, pair by pair from those ahead."""
    best = {}
    for i, j in product(range(len(left)), range(len(right))):
        ahead = [best[(i - one, j - other)] for one, other in STEPS.values() if (i - one, j - other) in best]
        if not near(left, right, gap, i, j) and (ahead or (i, j) == (0, 0)):
            best[(i, j)] = min(ahead) + 1 if ahead else 0
    return best


class MeetsAtTest(unittest.TestCase):
    def test_too_near_at_once(self):
        self.assertEqual(meets_at([5], [4], 0), 0)
        self.assertEqual(meets_at([5, 4], [5, 6], 1), 0)
        self.assertEqual(meets_at([0], [999], 1000), 0)

    def test_just_not_too_near(self):
        self.assertIsNone(meets_at([5], [5], 0))
        self.assertIsNone(meets_at([5], [6], 1))
        self.assertIsNone(meets_at([0], [1000], 1000))

    def test_at_a_later_tick(self):
        self.assertEqual(meets_at([0, 1, 2, 3], [5, 4, 3, 2], 0), 3)
        self.assertEqual(meets_at([0, 1, 2, 3], [5, 4, 3, 2], 2), 2)
        self.assertEqual(meets_at([0, 1, 0], [2, 2, 2], 2), 1)

    def test_behind_ones_end(self):
        self.assertEqual(meets_at([0, 1, 2, 3, 4], [3], 0), 4)
        self.assertEqual(meets_at([3], [6, 5, 4, 3, 2], 0), 4)
        self.assertEqual(meets_at([3, 4], [6, 5, 4, 3], 0), 3)

    def test_never(self):
        self.assertIsNone(meets_at([0, 1, 2, 3], [3, 4, 5], 0))
        self.assertIsNone(meets_at([0, 1, 2, 3], [4, 3, 4, 5], 0))
        # They cross only where they aren't at the same tick.
        self.assertIsNone(meets_at([4, 3, 2], [4, 4, 4, 3, 2], 0))

    def test_tick_by_tick(self):
        told = []
        for left, right, gap in list(small_tracks()) + list(greater_tracks()):
            last, end = len(left) - 1, len(right) - 1
            ticks = [tick for tick in range(99) if near(left, right, gap, min(tick, last), min(tick, end))]
            told.append(meets_at(left, right, gap))
            self.assertEqual(told[-1], ticks[0] if ticks else None)
        self.assertGreater(len(set(told)), 8)

    def test_tracks_stay(self):
        left, right = [0, 1, 2], [3, 2]
        meets_at(left, right, 1)
        self.assertEqual((left, right), ([0, 1, 2], [3, 2]))


class MovesTogetherTest(unittest.TestCase):
    def check(self, left, right, gap, fewest):
        moves = moves_together(left, right, gap)
        if fewest is None:
            self.assertIsNone(moves, (left, right, gap))
        else:
            self.assertIsInstance(moves, list)
            self.assertIs(comes_through(left, right, gap, moves), True, (left, right, gap, moves))
            self.assertEqual(len(moves), fewest, (left, right, gap))
            self.assertIs(shows_together(left, right, gap, moves), True)

    def test_tracks_of_one_number(self):
        self.assertEqual(moves_together([3], [3], 0), [])
        self.assertIsNone(moves_together([3], [2], 0))
        self.assertIsNone(moves_together([3], [3], 1))
        self.assertEqual(moves_together([3], [3, 4, 5], 0), ["right", "right"])
        self.assertEqual(moves_together([3, 2, 1], [3], 0), ["left", "left"])
        self.assertIsNone(moves_together([3, 4], [3], 0))

    def test_by_hand(self):
        self.assertEqual(moves_together([0, 1, 2], [9, 8, 7], 5), ["both", "both"])
        # Right goes away and comes back: left must wait, or be gone.
        self.assertEqual(moves_together([5, 6], [5, 6], 0), ["both"])
        self.assertEqual(moves_together([5, 4], [5, 4], 0), ["both"])
        self.check([5, 6, 5], [5, 5, 6], 0, 3)
        self.assertEqual(moves_together([5, 5, 6], [5, 6, 6], 0), ["both", "both"])
        self.assertEqual(moves_together([5, 6, 7], [5, 5, 6, 7], 0), ["right", "both", "both"])

    def test_where_there_is_none(self):
        self.assertIsNone(moves_together([0, 1, 2, 3], [3, 2, 1, 0], 0))
        self.assertIsNone(moves_together([0, 1], [1, 2], 2))
        self.assertIsNone(moves_together([4, 5, 4], [4, 4, 4], 0))

    def test_where_the_first_or_the_last_pair_alone_is_too_near(self):
        self.assertIsNone(moves_together([5, 4, 3], [4, 5, 6], 0))
        self.assertIsNone(moves_together([3, 4, 5], [6, 5, 4], 0))
        self.assertIsNone(moves_together([5, 4], [5], 1))

    def test_against_all_moves(self):
        fewest = []
        for left, right, gap in small_tracks():
            lengths = [len(moves) for moves in all_moves(left, right) if comes_through(left, right, gap, moves)]
            fewest.append(min(lengths, default=None))
            self.check(left, right, gap, fewest[-1])
            ends = (len(left) - 1, len(right) - 1)
            self.assertEqual(fewest_by_table(left, right, gap).get(ends), fewest[-1])
        self.assertGreater(fewest.count(None), 50)
        self.assertGreater(len(set(fewest)), 6)

    def test_greater_tracks(self):
        for left, right, gap in greater_tracks():
            self.check(left, right, gap, fewest_by_table(left, right, gap).get((len(left) - 1, len(right) - 1)))

    def test_four_hundred_numbers(self):
        rise = list(range(400))
        fall = rise[::-1]
        self.assertEqual(moves_together(rise, rise, 0), ["both"] * 399)
        self.assertEqual(moves_together([0] * 400, [1000] * 400, 1000), ["both"] * 399)
        self.check(rise, [399] + fall[:-1], 0, None)
        # Left goes out and home before right comes: they can't be out at once.
        out = list(range(200)) + list(range(200))[::-1]
        come = [200 - number for number in out]
        self.check(out, come, 0, fewest_by_table(out, come, 0)[(399, 399)])
        self.check(out, come, 1, fewest_by_table(out, come, 1)[(399, 399)])
        for seed in range(2):
            chance = Random(seed)
            left, right = some_track(chance, 400, 100), some_track(chance, 400, 110)
            self.check(left, right, 0, fewest_by_table(left, right, 0).get((399, 399)))

    def test_tracks_stay_and_the_told_list_is_the_askers_own(self):
        left, right = [0, 1, 2], [3, 2]
        told = moves_together(left, right, 0)
        again = list(told)
        told.append("both")
        self.assertEqual((left, right), ([0, 1, 2], [3, 2]))
        self.assertEqual(moves_together(left, right, 0), again)


class ShowsTogetherTest(unittest.TestCase):
    LEFT, RIGHT = [0, 1, 2], [3, 2, 2]

    def test_all_moves(self):
        for left, right, gap in small_tracks():
            for moves in all_moves(left, right):
                self.assertIs(shows_together(left, right, gap, moves), comes_through(left, right, gap, moves))

    def test_longer_moves_that_hold(self):
        for moves in [["both", "both"], ["left", "both", "right"], ["right", "left", "both"],
                      ["left", "left", "right", "right"]]:
            self.assertIs(shows_together(self.LEFT, self.RIGHT, 0, moves), True, moves)

    def test_a_move_past_an_end(self):
        for moves in [["both", "both", "both"], ["both", "both", "left"], ["both", "both", "right"],
                      ["left", "left", "left", "right", "right"], ["right", "right", "right", "left", "left"],
                      ["left", "left", "both", "right", "right"], ["left", "left", "both", "right"]]:
            self.assertIs(shows_together(self.LEFT, self.RIGHT, 0, moves), False, moves)

    def test_not_at_the_ends(self):
        for moves in [[], ["both"], ["left", "left"], ["right", "right"], ["left", "left", "right"],
                      ["right", "both"]]:
            self.assertIs(shows_together(self.LEFT, self.RIGHT, 0, moves), False, moves)

    def test_too_near_on_the_way(self):
        left, right = [0, 1, 2], [2, 1, 2]
        self.assertIs(shows_together(left, right, 0, ["both", "both"]), True)
        self.assertIs(shows_together(left, right, 0, ["both", "left", "right"]), False)
        self.assertIs(shows_together(left, right, 0, ["both", "right", "left"]), True)

    def test_too_near_at_first_or_at_last(self):
        self.assertIs(shows_together([5, 4], [4, 4], 0, ["both"]), False)
        self.assertIs(shows_together([4, 5], [4, 4], 0, ["both"]), False)
        self.assertIs(shows_together([5], [4], 0, []), False)
        self.assertIs(shows_together([5], [5], 0, []), True)
        self.assertIs(shows_together([5], [5], 1, []), False)

    def test_other_words_and_things(self):
        for thing in [["both", "Both"], ["both", "bot"], ["both", "none"], ["both", ""], ["both", None], ["both", 1],
                      ["both", ["both"]], ("both", "both"), None, "both", ["both", True], ["both", ("both",)],
                      [["both", "both"]], [1, 1], ["", "both", "both"]]:
            self.assertIs(shows_together(self.LEFT, self.RIGHT, 0, thing), False, thing)

    def test_one_step_otherwise(self):
        moves = ["left", "both", "right"]
        for thing in otherwise(moves):
            plain = isinstance(thing, list) and all(isinstance(move, str) and move in STEPS for move in thing)
            self.assertIs(shows_together(self.LEFT, self.RIGHT, 0, thing),
                          plain and comes_through(self.LEFT, self.RIGHT, 0, thing), thing)

    def test_none_where_there_is_none(self):
        self.assertIsNone(moves_together([0, 1], [0, 0], 0))
        self.assertIs(shows_together([0, 1], [0, 0], 0, None), False)
        self.assertIs(shows_together([0, 1], [0, 0], 0, []), False)

    def test_anything_at_all(self):
        for thing in ODD_THINGS:
            self.assertIs(shows_together(self.LEFT, self.RIGHT, 0, thing), False, repr(thing)[:60])
            self.assertIs(shows_together([5], [5], 0, thing), isinstance(thing, list) and thing == [])

    def test_what_is_handed_in_stays(self):
        left, right, moves = [0, 1, 2], [3, 2, 2], ["both", "both"]
        shows_together(left, right, 0, moves)
        self.assertEqual((left, right, moves), ([0, 1, 2], [3, 2, 2], ["both", "both"]))


def keeps_to(left, right, gap, told):
    """Whether a set of pairs keeps to the clauses of a paper that no moves come through."""
    if (len(left) - 1, len(right) - 1) in told:
        return False
    if (0, 0) not in told and not near(left, right, gap, 0, 0):
        return False
    for i, j in told:
        for one, other in STEPS.values():
            goal = (i + one, j + other)
            if goal[0] < len(left) and goal[1] < len(right) and not near(left, right, gap, *goal) and goal not in told:
                return False
    return True


class NeverMovesTest(unittest.TestCase):
    def check(self, left, right, gap):
        told = never_moves(left, right, gap)
        reached = fewest_by_table(left, right, gap)
        if (len(left) - 1, len(right) - 1) in reached:
            self.assertIsNone(told)
            self.assertIsNotNone(moves_together(left, right, gap))
        else:
            self.assertEqual(told, [[j for j in range(len(right)) if (i, j) in reached] for i in range(len(left))])
            self.assertIsNone(moves_together(left, right, gap))
            self.assertIs(shows_never(left, right, gap, told), True)
        return told is None

    def test_by_hand(self):
        self.assertIsNone(never_moves([0, 1], [1, 2], 0))
        self.assertEqual(never_moves([0, 1, 2], [2, 1, 0], 0), [[0, 1, 2], [0, 1], [0]])
        self.assertEqual(never_moves([3, 4], [3], 0), [[0], []])
        self.assertEqual(never_moves([3], [4, 3, 2, 3], 0), [[0, 1]])
        self.assertEqual(never_moves([0, 1, 0, 1], [0, 0], 0), [[0, 1], [], [], []])

    def test_where_the_first_pair_is_too_near(self):
        self.assertEqual(never_moves([5], [4], 0), [[]])
        self.assertEqual(never_moves([5, 4, 3], [4, 5], 0), [[], [], []])
        self.assertEqual(never_moves([5, 5], [5, 6, 7], 1), [[], []])

    def test_small_and_greater_tracks(self):
        told = [self.check(left, right, gap) for left, right, gap in list(small_tracks()) + list(greater_tracks())]
        self.assertGreater(min(told.count(True), told.count(False)), 100)

    def test_sixty_numbers(self):
        rise = list(range(60))
        self.assertIs(self.check(rise, rise[::-1], 0), False)
        self.assertIs(self.check(rise, rise, 0), True)
        for seed in range(20):
            chance = Random(seed)
            self.check(some_track(chance, 60, 20), some_track(chance, 60, 24), 0)

    def test_tracks_stay_and_told_lists_are_the_askers_own(self):
        for left, right, gap in [([5, 4, 3], [4, 5], 0), ([0, 1, 0, 1], [0, 0], 0)]:
            kept = copy.deepcopy((left, right))
            told = never_moves(left, right, gap)
            again = copy.deepcopy(told)
            self.assertEqual(len({id(one) for one in lists_in(told)}), len(left) + 1)
            for one in lists_in(told):
                one.append(7)
            self.assertEqual((left, right), kept)
            self.assertEqual(never_moves(left, right, gap), again)


class ShowsNeverTest(unittest.TestCase):
    # Left wants to go past right, which comes back: pairs (0, 0), (0, 1), (0, 2), (1, 0), (1, 1), (2, 0) are reached.
    LEFT, RIGHT = [0, 1, 2], [2, 1, 0]
    TOLD = [[0, 1, 2], [0, 1], [0]]

    def shows(self, thing, *, left=LEFT, right=RIGHT, gap=0):
        told = shows_never(left, right, gap, thing)
        self.assertIn(told, [True, False])
        self.assertIsInstance(told, bool)
        return told

    def test_what_never_moves_tells(self):
        self.assertIs(self.shows(self.TOLD), True)
        for left, right, gap in small_tracks():
            told = never_moves(left, right, gap)
            self.assertIs(self.shows(told, left=left, right=right, gap=gap), told is not None)

    def test_all_lists_of_small_tracks(self):
        cases = [([0, 1, 2], [2, 1, 0], 0), ([1, 0], [0, 1], 0), ([0, 1, 0], [0, 0, 1], 0), ([0, 1], [1, 1, 0], 0),
                 ([0], [1, 0], 1), ([0, 0], [0, 1], 0), ([0], [0], 0), ([0], [0], 1), ([0, 1, 1], [0, 0, 1], 0),
                 ([2, 1, 0], [1, 1, 0], 0), ([0, 1, 1], [0, 0, 0], 0), ([5, 6, 7], [4, 3, 2], 0),
                 ([1, 0], [0, 0, 0], 0)]
        told = []
        for left, right, gap in cases:
            pairs = list(product(range(len(left)), range(len(right))))
            for bits in range(2 ** len(pairs)):
                chosen = {pair for at, pair in enumerate(pairs) if bits >> at & 1}
                thing = [[j for j in range(len(right)) if (i, j) in chosen] for i in range(len(left))]
                told.append(self.shows(thing, left=left, right=right, gap=gap))
                self.assertIs(told[-1], keeps_to(left, right, gap, chosen), (left, right, gap, thing))
        self.assertGreater(told.count(True), 200)

    def test_where_the_first_pair_is_too_near(self):
        # From (0, 0) a move would lead to (1, 0), which isn't too near: so it may be left out, but not told alone.
        left, right = [2, 1, 0], [1, 1, 0]
        self.assertIs(self.shows([[], [], []], left=left, right=right), True)
        self.assertIs(self.shows([[0], [], []], left=left, right=right), False)
        self.assertIs(self.shows([[0], [], []], left=[2, 3], right=[1, 0]), False)
        self.assertIs(self.shows([[0], []], left=[2, 3], right=[1, 0]), True)
        self.assertIs(self.shows([[], [0]], left=[2, 3], right=[1, 0]), True)
        self.assertIs(self.shows([[], [1]], left=[2, 3], right=[1, 0]), False)

    def test_the_first_pair_left_out(self):
        self.assertIs(self.shows([[1, 2], [0, 1], [0]]), False)
        self.assertIs(self.shows([[], [], []]), False)
        self.assertIs(self.shows([[], []], left=[3, 4], right=[3]), False)
        self.assertIs(self.shows([[0], []], left=[3, 4], right=[3]), True)

    def test_one_left_out_to_which_a_move_leads(self):
        for thing in [[[0, 2], [0, 1], [0]], [[0, 1], [0, 1], [0]], [[0, 1, 2], [1], [0]], [[0, 1, 2], [0], [0]],
                      [[0, 1, 2], [0, 1], []]]:
            self.assertIs(self.shows(thing), False, thing)

    def test_the_ends_among_them(self):
        self.assertIs(self.shows([[0, 1, 2], [0, 1], [0, 2]]), False)
        self.assertIs(self.shows([[0]], left=[3], right=[3]), False)
        self.assertIs(self.shows([[0]], left=[3], right=[2]), False)
        self.assertIs(self.shows([[]], left=[3], right=[2]), True)
        self.assertIs(self.shows([[0, 1], [0, 1]], left=[0, 0], right=[0, 0]), False)

    def test_others_that_keep_to_the_clauses(self):
        # These pairs are too near, and told without need.
        self.assertIs(self.shows([[0, 1, 2], [0, 1, 2], [0]]), True)
        self.assertIs(self.shows([[0, 1, 2], [0, 1, 2], [0, 1]]), True)

    def test_a_number_that_right_has_not(self):
        for thing in [[[0, 1, 2, 3], [0, 1], [0]], [[0, 1, 2], [0, 1], [0, 3]], [[-1, 0, 1, 2], [0, 1], [0]],
                      [[0, 1, 2], [0, 1], [-1, 0]], [[0, 1, 2], [0, 1, 10 ** 30], [0]]]:
            self.assertIs(self.shows(thing), False, thing)

    def test_not_rising_and_a_number_twice(self):
        for thing in [[[0, 2, 1], [0, 1], [0]], [[0, 1, 2], [1, 0], [0]], [[0, 1, 1, 2], [0, 1], [0]],
                      [[0, 1, 2], [0, 1], [0, 0]], [[0, 0, 1, 2], [0, 1], [0]], [[0, 1, 2, 2], [0, 1], [0]]]:
            self.assertIs(self.shows(thing), False, thing)

    def test_too_few_and_too_many_lists(self):
        for thing in [[], self.TOLD[:2], self.TOLD + [[]], [[]] + self.TOLD, self.TOLD[1:], self.TOLD + [[0]]]:
            self.assertIs(self.shows(thing), False, thing)
        for thing in [[], [[], []]]:
            self.assertIs(self.shows(thing, left=[3], right=[2]), False, thing)

    def test_true_is_no_number_and_a_tuple_no_list(self):
        for thing in [[[False, 1, 2], [0, 1], [0]], [[0, True, 2], [0, 1], [0]], [[0, 1, 2], [0, 1], [False]],
                      tuple(self.TOLD), [(0, 1, 2), [0, 1], [0]], [[0, 1, 2], [0, 1], (0,)], [[0, 1, 2], [0, 1], 0],
                      [[0, 1, 2], [0, 1], None], [[0, 1, 2], [0, 1], "0"], [[0, 1, 2], [0, 1], ["0"]],
                      [[0, 1, 2], [0, 1], [[0]]], [[0, 1, 2], [0, 1], [None]]]:
            self.assertIs(self.shows(thing), False, thing)

    def test_one_step_otherwise(self):
        for thing in otherwise(self.TOLD):
            plain = (isinstance(thing, list) and len(thing) == 3 and all(isinstance(row, list) for row in thing)
                     and all(number.__class__ is int and 0 <= number < 3 for row in thing for number in row)
                     and all(row == sorted(set(row)) for row in thing))
            chosen = {(i, j) for i, row in enumerate(thing) for j in row} if plain else set()
            self.assertIs(self.shows(thing), plain and keeps_to(self.LEFT, self.RIGHT, 0, chosen), thing)

    def test_anything_at_all(self):
        for thing in ODD_THINGS:
            self.assertIs(self.shows(thing), False, repr(thing)[:60])
            self.assertIs(self.shows([thing], left=[3], right=[2]), isinstance(thing, list) and thing == [])
            self.assertIs(self.shows([[0], thing], left=[3, 4], right=[3]), isinstance(thing, list) and thing == [])

    def test_what_is_handed_in_stays(self):
        left, right, thing = list(self.LEFT), list(self.RIGHT), copy.deepcopy(self.TOLD)
        shows_never(left, right, 0, thing)
        self.assertEqual((left, right, thing), (self.LEFT, self.RIGHT, self.TOLD))


class SampleTracksTest(unittest.TestCase):
    def test_they_are_tracks(self):
        for left, right, gap in list(small_tracks()) + list(greater_tracks()):
            self.assertIs(is_track(left) and is_track(right), True)


if __name__ == "__main__":
    unittest.main()
