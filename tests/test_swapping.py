import unittest
from fractions import Fraction
from itertools import product

import counting
from asking import GREATEST, ask, everything, has, kinds, last


def pictures(one, other):
    return has(0, *one) + has(1, *other)


class Swaps(unittest.TestCase):
    def test_no_kinds(self):
        self.assertEqual(ask(("swaps",), ("most",), ("fairest",), ("swap", 0, 0), ("sells", 0, 0)),
                         [[0], [0], [-33], [-2], [-2]])

    def test_told_by_the_first_ones_kind_then_by_the_others(self):
        found = last(*kinds(1, 1, 1, 1), *pictures((2, 0, 3, 0), (0, 2, 0, 2)), ("swaps",))
        self.assertEqual(found, [4, 0, 1, 0, 3, 2, 1, 2, 3])
        found = last(*kinds(1, 1, 1, 1), *pictures((0, 2, 0, 3), (2, 0, 2, 0)), ("swaps",))
        self.assertEqual(found, [4, 1, 0, 1, 2, 3, 0, 3, 2])

    def test_each_need_of_a_swap_that_serves_both(self):
        self.assertEqual(last(*kinds(1, 1), *pictures((2, 0), (0, 2)), ("swaps",)), [1, 0, 1])
        for one, other in (((1, 0), (0, 2)), ((2, 0), (0, 1)), ((2, 1), (0, 2)), ((2, 0), (1, 2)), ((0, 0), (0, 0)),
                           ((2, 2), (2, 2)), ((2, 0), (0, 0)), ((0, 0), (2, 2)), ((2, 2), (0, 0))):
            with self.subTest(one=one, other=other):
                ahead = kinds(1, 1) + pictures(one, other)
                self.assertEqual(ask(*ahead, ("swaps",), ("most",), ("fairest",), ("swap", 0, 1))[len(ahead):],
                                 [[0], [0], [-33], [-33]])

    def test_swap_is_made(self):
        ahead = kinds(1, 1, 1, 1) + pictures((2, 3, 0, 0), (0, 0, 2, 2))
        found = ask(*ahead, ("swap", 1, 2), ("told", 0), ("told", 1), ("swaps",), ("swap", 0, 3), ("told", 0), ("told", 1))
        self.assertEqual(found[len(ahead):], [[1], [4, 2, 2, 1, 0], [4, 0, 1, 1, 2], [1, 0, 3], [0], [4, 1, 2, 1, 1], [4, 1, 1, 1, 1]])

    def test_swap_refusals(self):
        ahead = kinds(1, 1) + pictures((2, 0), (0, 2))
        self.assertEqual(last(*ahead, ("swap", 2, 1)), [-2])
        self.assertEqual(last(*ahead, ("swap", 0, 2)), [-2])
        self.assertEqual(last(*ahead, ("swap", GREATEST, GREATEST)), [-2])
        self.assertEqual(last(*ahead, ("swap", 1, 0)), [-33])
        self.assertEqual(last(*ahead, ("swap", 0, 0)), [-33])
        self.assertEqual(ask(*ahead, ("swap", 0, 1), ("swap", 0, 1))[-2:], [[0], [-33]])

    def test_swap_of_a_hundred(self):
        found = ask(*kinds(1, 1), *pictures((100, 0), (0, 2)), ("swap", 0, 1), ("told", 0), ("told", 1))
        self.assertEqual(found[-3:], [[0], [2, 99, 1], [2, 1, 1]])


class Most(unittest.TestCase):
    def test_as_many_as_the_fewer_have(self):
        self.assertEqual(last(*kinds(1, 1, 1, 1, 1), *pictures((2, 2, 0, 0, 0), (0, 0, 2, 2, 2)), ("most",)), [2])
        self.assertEqual(last(*kinds(1, 1, 1, 1, 1, 1), *pictures((2, 0, 2, 0, 2, 0), (0, 2, 0, 2, 0, 2)), ("most",)), [3])
        self.assertEqual(last(*kinds(1, 1), *pictures((100, 0), (0, 9)), ("most",)), [1])

    def test_it_changes_nothing(self):
        ahead = kinds(3, 4, 5, 6) + pictures((2, 3, 0, 0), (0, 0, 2, 2))
        shown = everything((3, 4, 5, 6))
        for call in (("most",), ("fairest",), ("swaps",), ("sells", 0, 0), ("ahead",), ("worth", 0, 2), ("meanboth",)):
            with self.subTest(call=call):
                self.assertEqual(ask(*ahead, call, *shown)[len(ahead) + 1:], ask(*ahead, *shown)[len(ahead):])

    def test_it_is_as_many_as_can_be_in_any_order(self):
        def longest(one, other):
            best = 0
            for i, j in product(range(4), repeat=2):
                if one[i] > 1 and other[i] == 0 and other[j] > 1 and one[j] == 0:
                    new_one, new_other = list(one), list(other)
                    new_one[i] -= 1
                    new_one[j] += 1
                    new_other[j] -= 1
                    new_other[i] += 1
                    best = max(best, 1 + longest(new_one, new_other))
            return best
        for one in product((0, 2), repeat=4):
            for other in product((0, 1, 2), repeat=4):
                self.assertEqual(last(*kinds(1, 1, 1, 1), *pictures(one, other), ("most",)), [longest(one, other)])


class Fairest(unittest.TestCase):
    def test_the_rare_ones_first(self):
        ahead = kinds(20, 1, 20, 1) + pictures((2, 2, 0, 0), (0, 0, 2, 2))
        self.assertEqual(last(*ahead, ("fairest",)), [1, 3])

    def test_of_like_ones_the_first(self):
        ahead = kinds(5, 5, 5, 5) + pictures((2, 2, 0, 0), (0, 0, 2, 2))
        self.assertEqual(last(*ahead, ("fairest",)), [0, 2])
        ahead = kinds(5, 5, 5, 5) + pictures((0, 0, 2, 2), (2, 2, 0, 0))
        self.assertEqual(last(*ahead, ("fairest",)), [2, 0])

    def test_only_the_greater_mean_counts(self):
        # Collector 0 lacks the rare kind 4 whatever is swapped, so collector 1's gain is no matter.
        ahead = kinds(20, 10, 9, 8, 1) + pictures((2, 2, 0, 0, 0), (0, 0, 2, 2, 1))
        self.assertEqual(last(*ahead, ("fairest",)), [0, 3])
        ahead = kinds(20, 10, 9, 8, 1) + pictures((2, 2, 0, 0, 1), (0, 0, 2, 2, 0))
        self.assertEqual(last(*ahead, ("fairest",)), [1, 2])

    def test_as_counted(self):
        for weights in ((1, 2, 3, 4), (4, 3, 2, 1), (20, 1, 1, 20), (2, 9, 9, 2), (7, 7, 1, 3)):
            for one, other in (((2, 2, 0, 0), (0, 0, 2, 2)), ((2, 0, 2, 0), (0, 3, 0, 2)), ((0, 0, 2, 0), (2, 2, 0, 0)),
                               ((2, 2, 2, 0), (0, 0, 0, 2))):
                with self.subTest(weights=weights, one=one, other=other):
                    self.assertEqual(last(*kinds(*weights), *pictures(one, other), ("fairest",)), fairest(weights, one, other))


def fairest(weights, one, other):
    best = None
    for i, j in product(range(4), repeat=2):
        if one[i] > 1 and other[i] == 0 and other[j] > 1 and one[j] == 0:
            means = [counting.mean(weights, {k for k in range(4) if one[k] or k == j}),
                     counting.mean(weights, {k for k in range(4) if other[k] or k == i})]
            if best is None or max(means) < best[0]:
                best = (max(means), [i, j])
    return best[1]


class Sells(unittest.TestCase):
    def test_a_double_that_the_other_lacks(self):
        ahead = kinds(1, 1, 1, 1) + pictures((2, 1, 2, 0), (0, 0, 1, 5))
        asked = [("sells", 0, kind) for kind in range(4)] + [("sells", 1, kind) for kind in range(4)]
        self.assertEqual(ask(*ahead, *asked)[len(ahead):], [[1], [0], [0], [0], [0], [0], [0], [1]])

    def test_no_such(self):
        self.assertEqual(last(*kinds(1), ("sells", 2, 0)), [-2])
        self.assertEqual(last(*kinds(1), ("sells", 0, 1)), [-2])


class WhatHolds(unittest.TestCase):
    def test_a_swap_makes_it_sooner_for_either_and_loses_nothing(self):
        weights = (20, 3, 1, 9)
        ahead = kinds(*weights) + pictures((2, 4, 0, 0), (0, 0, 3, 2))
        asked = (("mean", 0), ("mean", 1), ("meanboth",), ("told", 0), ("told", 1))
        swaps = last(*ahead, ("swaps",))
        self.assertEqual(swaps[0], 4)
        before = ask(*ahead, *asked)[len(ahead):]
        for place in range(1, 9, 2):
            behind = ask(*ahead, ("swap", swaps[place], swaps[place + 1]), *asked)[len(ahead) + 1:]
            for collector in (0, 1):
                self.assertLess(Fraction(*behind[collector][1:]), Fraction(*before[collector][1:]))
            self.assertEqual(behind[2], before[2])
            for kind in range(1, 5):
                self.assertEqual(behind[3][kind] + behind[4][kind], before[3][kind] + before[4][kind])

    def test_a_double_given_makes_it_sooner_for_who_lacks_it(self):
        ahead = kinds(5, 1, 7) + pictures((0, 2, 0), (1, 0, 0))
        asked = (("mean", 0), ("mean", 1))
        before = [Fraction(*found[1:]) for found in ask(*ahead, *asked)[-2:]]
        behind = [Fraction(*found[1:]) for found in ask(*ahead, ("give", 0, 1), *asked)[-2:]]
        self.assertEqual(behind[0], before[0])
        self.assertLess(behind[1], before[1])


if __name__ == "__main__":
    unittest.main()
