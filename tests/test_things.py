import unittest
from copy import deepcopy

from pickboard.things import is_same
from samples import ODD_THINGS


class IsSameTest(unittest.TestCase):
    def test_things_are_the_same_as_themselves_alone(self):
        for at, one in enumerate(ODD_THINGS):
            for other, thing in enumerate(ODD_THINGS):
                self.assertIs(is_same(deepcopy(one), thing), at == other, (repr(one)[:60], repr(thing)[:60]))

    def test_true_is_no_number(self):
        for one, other in [(True, 1), (False, 0)]:
            for wrap in [lambda thing: thing, lambda thing: [thing], lambda thing: [([5, thing],)]]:
                self.assertIs(is_same(wrap(one), wrap(one)), True)
                self.assertIs(is_same(wrap(other), wrap(other)), True)
                self.assertIs(is_same(wrap(one), wrap(other)), False)
                self.assertIs(is_same(wrap(other), wrap(one)), False)

    def test_a_tuple_is_no_list(self):
        for one, other in [((), []), ((1, 2), [1, 2]), ([(1, 2)], [[1, 2]]), (([], 5), ((), 5))]:
            self.assertIs(is_same(one, other), False)
            self.assertIs(is_same(other, one), False)

    def test_other_lengths_and_other_things_within(self):
        told = [(1, [2, 3]), (4, [])]
        self.assertIs(is_same([(1, [2, 3]), (4, [])], told), True)
        for thing in [[], told[:1], told + [()], [(1, [2, 3]), (4, [5])], [(1, [2]), (4, [])], [(1, [2, 4]), (4, [])],
                      [(1, "ab"), (4, [])], [(1, [2, 3]), 4], told[::-1], "ab"]:
            self.assertIs(is_same(thing, told), False, thing)


if __name__ == "__main__":
    unittest.main()
