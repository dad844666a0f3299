import unittest
from string import ascii_lowercase

from pickboard.places import going_to, is_name, is_place, length_of, way_between
from samples import ODD_THINGS

SOME_PLACES = [(0, 0), (0, 1000), (1000, 0), (1000, 1000), (3, 4), (4, 3), (500, 2), (2, 500), (7, 7), (999, 1)]


class IsNameTest(unittest.TestCase):
    def test_each_letter_by_itself(self):
        for letter in ascii_lowercase:
            self.assertIs(is_name(letter), True, letter)

    def test_one_to_eight_letters(self):
        for many in range(1, 9):
            self.assertIs(is_name("azbycxdw"[:many]), True, many)
            self.assertIs(is_name("z" * many), True, many)

    def test_too_few_and_too_many_letters(self):
        self.assertIs(is_name(""), False)
        self.assertIs(is_name("abcdefghi"), False)
        self.assertIs(is_name("a" * 20000), False)

    def test_every_other_sign_anywhere(self):
        others = [chr(code) for code in range(300) if chr(code) not in ascii_lowercase]
        for sign in others + ["\u0430", "\uff41"]:
            for text in [sign, "ab" + sign, sign + "ab", "a" + sign + "b"]:
                self.assertIs(is_name(text), False, repr(text))

    def test_line_feed_behind_the_letters(self):
        self.assertIs(is_name("a\n"), False)
        self.assertIs(is_name("abcdefgh\n"), False)

    def test_things_that_are_no_texts(self):
        for thing in [None, True, False, 0, 7, -1, [], ["a"], ["a", "b"], (), ("a",), ("a", "b"), b"abc"]:
            self.assertIs(is_name(thing), False, thing)

    def test_anything(self):
        for thing in ODD_THINGS:
            if thing != "abcde":
                self.assertIs(is_name(thing), False, repr(thing)[:60])


class IsPlaceTest(unittest.TestCase):
    def test_at_the_bounds(self):
        for place in SOME_PLACES:
            self.assertIs(is_place(place), True, place)

    def test_one_beyond_the_bounds(self):
        for place in [(-1, 0), (0, -1), (1001, 0), (0, 1001), (1001, 1001), (-1, -1), (1000, 1001), (10 ** 30, 5)]:
            self.assertIs(is_place(place), False, place)

    def test_true_and_false_are_no_numbers(self):
        for place in [(True, 5), (5, True), (False, 5), (5, False), (True, False)]:
            self.assertIs(is_place(place), False, place)

    def test_a_list_is_no_pair(self):
        self.assertIs(is_place([3, 4]), False)
        self.assertIs(is_place([[3, 4]]), False)

    def test_other_numbers_of_things(self):
        for thing in [(), (3,), (3, 4, 5), (3, 4, 5, 6), 3]:
            self.assertIs(is_place(thing), False, thing)

    def test_other_things_in_the_pair(self):
        others = ["3", "", None, (), (3,), [3], [], (3, 4)]
        for thing in others:
            self.assertIs(is_place((thing, 4)), False, thing)
            self.assertIs(is_place((4, thing)), False, thing)

    def test_texts_and_pairs_within_pairs(self):
        for thing in ["34", "(3, 4)", "ab", ((3, 4), (5, 6)), ((3, 4),), ((3, 4), 5)]:
            self.assertIs(is_place(thing), False, thing)

    def test_anything(self):
        for thing in ODD_THINGS:
            self.assertIs(is_place(thing), False, repr(thing)[:60])


class WayBetweenTest(unittest.TestCase):
    def test_the_greater_difference(self):
        self.assertEqual(way_between((0, 0), (3, 4)), 4)
        self.assertEqual(way_between((0, 0), (4, 3)), 4)
        self.assertEqual(way_between((10, 20), (3, 18)), 7)
        self.assertEqual(way_between((10, 20), (12, 5)), 15)
        self.assertEqual(way_between((5, 1), (1, 5)), 4)
        self.assertEqual(way_between((0, 1000), (1000, 0)), 1000)
        self.assertEqual(way_between((0, 7), (0, 9)), 2)
        self.assertEqual(way_between((7, 0), (9, 0)), 2)

    def test_the_same_the_other_way_about(self):
        for one in SOME_PLACES:
            for other in SOME_PLACES:
                self.assertEqual(way_between(one, other), way_between(other, one))

    def test_nought_of_like_places_alone(self):
        for one in SOME_PLACES:
            for other in SOME_PLACES:
                self.assertEqual(way_between(one, other) == 0, one == other, (one, other))


class LengthOfTest(unittest.TestCase):
    def test_of_none_and_of_one(self):
        self.assertEqual(length_of([]), 0)
        self.assertEqual(length_of([(500, 600)]), 0)

    def test_of_several(self):
        self.assertEqual(length_of([(0, 0), (3, 4)]), 4)
        self.assertEqual(length_of([(0, 0), (3, 4), (10, 5)]), 11)
        self.assertEqual(length_of([(0, 0), (3, 4), (0, 0)]), 8)
        self.assertEqual(length_of([(0, 0), (1000, 1000), (0, 1000), (0, 0)]), 3000)

    def test_like_places_one_behind_the_other(self):
        self.assertEqual(length_of([(3, 4), (3, 4)]), 0)
        self.assertEqual(length_of([(0, 0), (3, 4), (3, 4), (3, 4), (10, 5)]), 11)

    def test_of_many(self):
        self.assertEqual(length_of([(0, 0), (1000, 0)] * 1000), 1999000)

    def test_the_list_stays(self):
        places = [(0, 0), (3, 4), (3, 4), (10, 5)]
        for asked in range(2):
            self.assertEqual(length_of(places), 11)
            self.assertEqual(places, [(0, 0), (3, 4), (3, 4), (10, 5)])


class GoingToTest(unittest.TestCase):
    def test_tick_by_tick(self):
        told = [going_to((10, 10), (13, 8), ticks) for ticks in range(6)]
        self.assertEqual(told, [(10, 10), (11, 9), (12, 8), (13, 8), (13, 8), (13, 8)])
        told = [going_to((5, 5), (3, 9), ticks) for ticks in range(6)]
        self.assertEqual(told, [(5, 5), (4, 6), (3, 7), (3, 8), (3, 9), (3, 9)])

    def test_it_stays_where_it_is(self):
        for ticks in [0, 1, 2, 1000, 5000]:
            self.assertEqual(going_to((7, 9), (7, 9), ticks), (7, 9))

    def test_one_side_alone(self):
        self.assertEqual(going_to((0, 9), (1000, 9), 400), (400, 9))
        self.assertEqual(going_to((7, 1000), (7, 0), 400), (7, 600))

    def test_each_side_comes_nearer_by_one_till_it_is_there(self):
        for one in SOME_PLACES:
            for other in SOME_PLACES:
                self.walk_along(one, other)

    def walk_along(self, one, other):
        way = way_between(one, other)
        x, y = one
        for ticks in range(way + 3):
            told = going_to(one, other, ticks)
            self.assertEqual(told, (x, y))
            self.assertIsInstance(told, tuple)
            self.assertEqual(told == other, ticks >= way)
            x += (other[0] > x) - (other[0] < x)
            y += (other[1] > y) - (other[1] < y)

    def test_it_stays_there_up_to_five_thousand_ticks(self):
        for ticks in [1000, 1001, 4999, 5000]:
            self.assertEqual(going_to((0, 1000), (1000, 3), ticks), (1000, 3))
            self.assertEqual(going_to((1000, 3), (0, 1000), ticks), (0, 1000))
        self.assertEqual(going_to((0, 1000), (1000, 3), 999), (999, 3))

    def test_the_same_question_is_told_the_same(self):
        self.assertEqual(going_to((1, 2), (50, 9), 5), going_to((1, 2), (50, 9), 5))


if __name__ == "__main__":
    unittest.main()
