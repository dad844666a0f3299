import copy
import unittest
from itertools import product
from random import Random

from pickboard.tips import bear_tips, changes_in, fewest_changes, shows_bear
from samples import ODD_THINGS


def changes_by_hand(first, rows):
    """How often a head bears another tip than in the row ahead, head by head."""
    return sum(1 for head in range(len(first)) for at in range(len(rows))
               if rows[at][head] != ([first] + list(rows))[at][head])


def meets(row, need):
    return all(list(row).count(tip) >= need.count(tip) for tip in need)


def fewest_by_trying(first, needs):
    """The fewest changes of all ways of bearing, tried one by one."""
    tips = sorted(set(first) | {tip for need in needs for tip in need})
    rows = [[row for row in product(tips, repeat=len(first)) if meets(row, need)] for need in needs]
    return min(changes_by_hand(first, way) for way in product(*rows))


def fewest_by_rows(first, needs):
    """The same, keeping for each row that can be borne the fewest changes that lead to it."""
    tips = sorted(set(first) | {tip for need in needs for tip in need})
    best = {tuple(first): 0}
    for need in needs:
        best = {row: min(many + changes_by_hand(old, [row]) for old, many in best.items())
                for row in product(tips, repeat=len(first)) if meets(row, need)}
    return min(best.values())


def some_needs(chance, tips, heads, many):
    """So many needs, of which some are empty and some as long as there are heads."""
    return [[chance.choice(tips) for step in range(chance.randint(0, heads))] for trip in range(many)]


class BearTipsTest(unittest.TestCase):
    def check(self, first, needs, fewest=None):
        rows = bear_tips(first, needs)
        self.assertIsInstance(rows, list)
        self.assertEqual(len(rows), len(needs))
        for row, need in zip(rows, needs):
            self.assertIsInstance(row, list)
            self.assertEqual(len(row), len(first))
            for tip in need:
                self.assertGreaterEqual(row.count(tip), need.count(tip), (first, needs, rows))
        self.assertEqual(fewest_changes(first, needs), changes_by_hand(first, rows))
        self.assertIs(shows_bear(first, needs, rows), True)
        if fewest is not None:
            self.assertEqual(fewest_changes(first, needs), fewest, (first, needs))

    def test_by_hand(self):
        self.check(["a"], [["b"]], 1)
        self.check(["a"], [["a"], [], ["a"]], 0)
        self.check(["a"], [["b"], ["a"], ["b"]], 3)
        self.check(["a", "b"], [["c"], ["a"], ["c"], ["b"]], 2)
        self.check(["a", "b"], [["b", "a"], ["a", "a"], ["b"]], 2)
        self.check(["a", "a"], [["a", "a"], ["b"], ["a"], ["a", "a"]], 2)

    def test_the_tip_that_is_needed_again_last_goes(self):
        self.check(["a", "b", "c"], [["d"], ["a"], ["b"], ["c"]], 2)
        self.check(["a", "b", "c"], [["d"], ["c"], ["b"], ["a"]], 2)
        self.check(["a", "b", "c"], [["d"], ["b"], ["d"], ["a"], ["d"], ["b"]], 1)

    def test_a_second_head_with_the_same_tip(self):
        self.check(["a", "a", "b"], [["c"], ["a", "b"], ["a"], ["b"], ["a", "a", "b"]], 2)
        self.check(["a", "a"], [["a", "b"], ["a"], ["b", "a"]], 1)

    def test_just_as_many_heads_as_are_needed(self):
        self.check(["a", "b", "c"], [["c", "a", "b"], ["b", "b", "b"], ["a", "b", "c"]], 4)
        self.check(["a"] * 6, [["b"] * 6, ["a"] * 6], 12)

    def test_needs_that_are_empty_and_no_needs(self):
        self.assertEqual(bear_tips(["a", "b"], []), [])
        self.assertEqual(fewest_changes(["a", "b"], []), 0)
        self.check(["a", "b"], [[], [], []], 0)
        self.assertEqual(bear_tips(["a", "b"], [[], []]), [["a", "b"], ["a", "b"]])
        self.check(["a"], [["b"], [], ["b"], [], ["a"]], 2)

    def test_all_needs_of_two_heads_and_three_trips_tried_one_by_one(self):
        kinds = [[], ["a"], ["b"], ["c"], ["a", "a"], ["a", "b"], ["c", "b"], ["c", "c"]]
        for first in [["a", "b"], ["a", "a"], ["c", "b"]]:
            for needs in product(kinds, repeat=3):
                self.check(first, list(needs), fewest_by_rows(first, list(needs)))

    def test_some_needs_tried_one_by_one(self):
        for seed in range(60):
            chance = Random(seed)
            heads = 1 + seed % 3
            first = [chance.choice("abc") for head in range(heads)]
            needs = some_needs(chance, "abc", heads, 2 if heads == 3 else 3)
            self.check(first, needs, fewest_by_trying(first, needs))
            self.assertEqual(fewest_by_rows(first, needs), fewest_by_trying(first, needs))

    def test_more_needs_row_by_row(self):
        for seed in range(120):
            chance = Random(seed)
            heads = 2 + seed % 3
            tips = "abcd" if heads < 4 else "abc"
            first = [chance.choice(tips) for head in range(heads)]
            # Short needs leave heads to choose among, long ones hardly any.
            needs = some_needs(chance, tips, 1 + seed // 3 % heads, 7)
            self.check(first, needs, fewest_by_rows(first, needs))

    def test_sixty_rows_and_six_heads(self):
        tips = ["a", "b", "chip", "coil", "letterse", "f", "g", "h"]
        for seed in range(10):
            chance = Random(seed)
            self.check([chance.choice(tips) for head in range(6)], some_needs(chance, tips, 1 + seed % 6, 60))
        self.check(["a"] * 6, [["b"] * 6, ["a"] * 6] * 30, 360)

    def test_told_lists_are_the_askers_own(self):
        first, needs = ["a", "b"], [["a"], ["b"], []]
        told = bear_tips(first, needs)
        self.assertEqual(told, [["a", "b"]] * 3)
        told[0][0] = "z"
        self.assertEqual(told, [["z", "b"], ["a", "b"], ["a", "b"]])
        self.assertEqual((first, needs), (["a", "b"], [["a"], ["b"], []]))
        self.assertEqual(bear_tips(first, needs), [["a", "b"]] * 3)
        full = [["a", "b"], ["a", "b"]]
        for row in bear_tips(first, full):
            for other in full + [first]:
                self.assertIsNot(row, other)

    def test_what_is_handed_in_stays(self):
        first, needs = ["a", "b", "c"], [["d", "d"], ["a"], [], ["c", "b", "a"]]
        kept = copy.deepcopy((first, needs))
        rows = bear_tips(first, needs)
        told = copy.deepcopy(rows)
        changes_in(first, rows)
        fewest_changes(first, needs)
        shows_bear(first, needs, rows)
        self.assertEqual((first, needs), kept)
        self.assertEqual(rows, told)


class ChangesInTest(unittest.TestCase):
    def test_by_hand_from_first_on(self):
        self.assertEqual(changes_in(["a"], []), 0)
        self.assertEqual(changes_in(["a"], [["a"]]), 0)
        self.assertEqual(changes_in(["a"], [["b"]]), 1)
        self.assertEqual(changes_in(["a"], [["a"], ["b"], ["b"], ["a"]]), 2)
        self.assertEqual(changes_in(["a", "b"], [["b", "a"]]), 2)
        self.assertEqual(changes_in(["a", "b"], [["b", "a"], ["b", "b"], ["a", "b"]]), 4)
        self.assertEqual(changes_in(["a", "b", "c"], [["a", "b", "c"], ["a", "c", "b"], ["a", "c", "b"]]), 2)

    def test_head_by_head(self):
        for seed in range(40):
            chance = Random(seed)
            heads = 1 + seed % 6
            rows = [[chance.choice("abc") for head in range(heads)] for trip in range(seed % 7)]
            first = [chance.choice("abc") for head in range(heads)]
            self.assertEqual(changes_in(first, rows), changes_by_hand(first, rows))

    def test_changes_that_no_need_asks_for_count_too(self):
        self.assertEqual(changes_in(["a", "a"], [["b", "c"], ["a", "a"], ["b", "c"]]), 6)


class ShowsBearTest(unittest.TestCase):
    FIRST = ["a", "b"]
    NEEDS = [["a"], ["c", "c"], [], ["b"]]

    def holds(self, thing, first=None, needs=None):
        self.assertIs(shows_bear(first or self.FIRST, self.NEEDS if needs is None else needs, thing), True, thing)

    def fails(self, thing, first=None, needs=None):
        told = shows_bear(first or self.FIRST, self.NEEDS if needs is None else needs, thing)
        self.assertIs(told, False, repr(thing)[:300])

    def test_what_bear_tips_tells(self):
        self.holds(bear_tips(self.FIRST, self.NEEDS))

    def test_more_changes(self):
        self.holds([["z", "a"], ["c", "c"], ["y", "x"], ["b", "b"]])
        self.holds([["a", "a"], ["c", "c"], ["abcdefgh", "x"], ["q", "b"]])

    def test_a_need_not_met(self):
        rows = [["a", "b"], ["c", "c"], ["c", "c"], ["b", "c"]]
        self.holds(rows)
        for at, row in [(0, ["b", "c"]), (1, ["c", "a"]), (1, ["a", "c"]), (1, ["a", "a"]), (3, ["a", "c"])]:
            self.fails(rows[:at] + [row] + rows[at + 1:])

    def test_all_rows_of_a_small_need(self):
        for need in [[], ["a"], ["a", "a"], ["b", "a"], ["c", "a", "a"], ["b", "c", "a"], ["b", "b", "b"]]:
            for row in product("abc", repeat=3):
                told = shows_bear(["a", "b", "c"], [need], [list(row)])
                self.assertIs(told, meets(row, need), (need, row))

    def test_a_row_too_long_or_too_short(self):
        rows = [["a", "b"], ["c", "c"], ["c", "c"], ["b", "c"]]
        for at in range(4):
            for row in [rows[at] + ["a"], rows[at] + rows[at], [], ["c"], ["a"], ["b"]]:
                self.fails(rows[:at] + [row] + rows[at + 1:])

    def test_too_few_and_too_many_rows(self):
        rows = [["a", "b"], ["c", "c"], ["c", "c"], ["b", "c"]]
        for thing in [[], rows[:3], rows[1:], rows + [["a", "b"]], rows + rows]:
            self.fails(thing)
        self.fails([["a", "b"]], needs=[])
        self.fails([[]], needs=[])
        self.holds([], needs=[])

    def test_things_that_are_no_names(self):
        rows = [["a", "b"], ["c", "c"], ["c", "c"], ["b", "c"]]
        names = ["", "A", "abcdefghi", "a b", "a\n", "a1", 5, None, True, ["a"], ("a",), "~"]
        for thing in names + [thing for thing in ODD_THINGS if thing != "abcde"]:
            self.fails([["a", thing]] + rows[1:])
            self.fails(rows[:2] + [["c", thing]] + rows[3:])
            self.fails(rows[:2] + [[thing, "c"]] + rows[3:])

    def test_tuples_for_lists(self):
        rows = [["a", "b"], ["c", "c"], ["c", "c"], ["b", "c"]]
        self.fails(tuple(rows))
        self.fails((), needs=[])
        for at in range(4):
            self.fails(rows[:at] + [tuple(rows[at])] + rows[at + 1:])

    def test_texts_for_lists(self):
        rows = [["a", "b"], ["c", "c"], ["c", "c"], ["b", "c"]]
        for at, row in enumerate(["ab", "cc", "cc", "bc"]):
            self.fails(rows[:at] + [row] + rows[at + 1:])
        self.fails("abcd")

    def test_anything(self):
        for thing in ODD_THINGS:
            self.fails(thing)
            self.fails([thing] * 4)
            self.assertIs(shows_bear(["a"], [], thing), thing == [])
            self.assertIs(shows_bear(["a"], [[]], [thing]), thing == ["chip"])


if __name__ == "__main__":
    unittest.main()
