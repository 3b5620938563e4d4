import unittest
from fractions import Fraction
from itertools import combinations, permutations

import counting
from asking import GREATEST, ask, kinds, last

FEW = ((1,), (20,), (1, 1), (1, 2), (20, 1), (3, 3, 3), (1, 2, 3), (2, 20, 1, 5))
SIX = ((1, 1, 1, 1, 1, 1), (1, 2, 3, 4, 5, 6), (20, 20, 1, 1, 1, 20), (20, 20, 20, 20, 20, 20))
BY_NUMBER = ("allnumbers", "meankinds", "adds", "likeliest", "evenkinds")


def asked(weights, *calls):
    """The answers of these calls alone, of kinds of these weights."""
    return ask(*kinds(*weights), *calls)[len(weights):]


class Refusals(unittest.TestCase):
    def test_no_kinds_goes_first_of_all(self):
        calls = [(name, number) for name in BY_NUMBER + ("mostkinds",) for number in (0, 12, 13, GREATEST)]
        calls += [("justkinds", 0, 0), ("justkinds", 13, 0), ("seen", 0, 1), ("seen", 0, 13), ("both", 0, 1, 2),
                  ("both", 0, 0, 13), ("needed", 0, 1), ("needed", 0, 0), ("needed", 101, 1), ("needed", 7, 1),
                  ("wouldkinds", 0, 1, 2), ("wouldkinds", 0, 0, 13)]
        for call in calls:
            with self.subTest(call=call):
                self.assertEqual(last(call), [-6])

    def test_no_such_kind_goes_ahead_of_too_many_draws(self):
        for call in (("seen", 2, 1), ("seen", 2, 13), ("seen", GREATEST, 13), ("both", 0, 2, 1), ("both", 2, 0, 1),
                     ("both", 2, 2, 13), ("both", 0, 2, 13), ("wouldkinds", 0, 2, 1), ("wouldkinds", 2, 1, 13),
                     ("wouldkinds", 2, 2, 1), ("wouldkinds", GREATEST, 0, 1)):
            with self.subTest(call=call):
                self.assertEqual(last(*kinds(1, 2), call), [-2])

    def test_twelve_draws_and_one_more(self):
        for name in BY_NUMBER:
            self.assertGreaterEqual(last(*kinds(1, 2), (name, 12))[0], 0)
            for number in (13, GREATEST):
                self.assertEqual(last(*kinds(1, 2), (name, number)), [-22])
        found = asked((1, 3), ("justkinds", 12, 1), ("justkinds", 13, 1), ("justkinds", 13, GREATEST), ("seen", 0, 12),
                      ("seen", 0, 13), ("both", 0, 1, 12), ("both", 0, 1, 13), ("wouldkinds", 0, 1, 12),
                      ("wouldkinds", 0, 1, 13))
        self.assertEqual([answer[0] for answer in found], [0, -22, -22, 0, -22, 0, -22, 0, -22])

    def test_a_kind_beside_itself(self):
        self.assertEqual(asked((1, 2), ("both", 0, 0, 2), ("both", 1, 1, 0), ("wouldkinds", 0, 0, 2), ("wouldkinds", 1, 1, 13)),
                         [[-22]] * 4)

    def test_odd_weights_go_behind_all_else(self):
        self.assertEqual(asked((1, 2), ("wouldkinds", 0, 1, 2), ("wouldkinds", 1, 0, 12), ("wouldkinds", 0, 1, 13),
                               ("wouldkinds", 0, 2, 2)), [[-33], [-33], [-22], [-2]])

    def test_needed_bounds(self):
        found = asked((1, 2), ("needed", 0, 0), ("needed", 0, 101), ("needed", 101, 100), ("needed", 101, 1),
                      ("needed", GREATEST, 1), ("needed", 1, GREATEST), ("needed", 101, 0), ("needed", 100, 100),
                      ("needed", 100, 1), ("needed", 0, 100))
        self.assertEqual(found, [[-22]] * 7 + [[1], [-33], [0]])


class Numbers(unittest.TestCase):
    def test_all_by_hand(self):
        found = asked((1, 2), *[("allnumbers", draws) for draws in range(4)])
        self.assertEqual(found, [[3, 1, 0, 0], [3, 0, 3, 0], [3, 0, 5, 4], [3, 0, 9, 18]])
        self.assertEqual(asked((5,), ("allnumbers", 0), ("allnumbers", 1), ("allnumbers", 12)),
                         [[2, 1, 0], [2, 0, 5], [2, 0, 5 ** 12]])

    def test_just_by_hand(self):
        found = asked((1, 2), *[("justkinds", 2, number) for number in (0, 1, 2, 3, GREATEST)])
        self.assertEqual(found, [[0, 0, 1], [0, 5, 9], [0, 4, 9], [0, 0, 1], [0, 0, 1]])
        self.assertEqual(asked((1, 2), ("justkinds", 0, 0), ("justkinds", 0, 1), ("justkinds", 1, 0), ("justkinds", 1, 1)),
                         [[0, 1, 1], [0, 0, 1], [0, 0, 1], [0, 1, 1]])

    def test_likeliest_by_hand(self):
        self.assertEqual(asked((1, 2), *[("likeliest", draws) for draws in (0, 1, 2, 3, 12)]), [[0], [1], [1], [2], [2]])

    def test_likeliest_of_like_ones_the_least(self):
        self.assertEqual(last(*kinds(1, 1), ("allnumbers", 2)), [3, 0, 2, 2])
        self.assertEqual(last(*kinds(1, 1), ("likeliest", 2)), [1])

    def test_over_all_rows_of_draws(self):
        for weights in FEW:
            for draws in range(6):
                found = last(*kinds(*weights), ("allnumbers", draws))
                heavy = [counting.over_rows(weights, draws, lambda row: len(set(row)) == number) * sum(weights) ** draws
                         for number in range(len(weights) + 1)]
                self.assertEqual(found, [len(weights) + 1] + heavy)

    def test_up_to_twelve_draws(self):
        for weights in FEW + SIX:
            for draws in (0, 1, 2, 5, 6, 7, 11, 12):
                heavy = counting.kinds_rows(weights, draws)
                every_row = sum(weights) ** draws
                with self.subTest(weights=weights, draws=draws):
                    found = asked(weights, ("allnumbers", draws), ("likeliest", draws),
                                  *[("justkinds", draws, number) for number in range(len(weights) + 2)])
                    self.assertEqual(found[0], [len(weights) + 1] + heavy)
                    self.assertEqual(sum(found[0][1:]), every_row)
                    self.assertEqual(found[1], [counting.first_greatest(heavy)])
                    self.assertEqual(found[2:], [counting.told(Fraction(number, every_row)) for number in heavy + [0]])

    def test_most(self):
        for weights in FEW + SIX:
            found = asked(weights, *[("mostkinds", draws) for draws in (0, 1, 2, 5, 6, 7, 13, GREATEST)])
            self.assertEqual(found, [[min(draws, len(weights))] for draws in (0, 1, 2, 5, 6, 7, 13, GREATEST)])


class Means(unittest.TestCase):
    def test_by_hand(self):
        self.assertEqual(asked((1, 2), *[("meankinds", draws) for draws in range(4)]),
                         [[0, 0, 1], [0, 1, 1], [0, 13, 9], [0, 5, 3]])
        self.assertEqual(asked((1, 2), *[("adds", draws) for draws in range(3)]), [[0, 1, 1], [0, 4, 9], [0, 2, 9]])
        self.assertEqual(asked((1, 2), *[("evenkinds", draws) for draws in range(4)]),
                         [[0, 0, 1], [0, 1, 1], [0, 3, 2], [0, 7, 4]])

    def test_one_kind(self):
        self.assertEqual(asked((7,), ("meankinds", 0), ("meankinds", 12), ("adds", 0), ("adds", 1), ("adds", 12), ("evenkinds", 12)),
                         [[0, 0, 1], [0, 1, 1], [0, 1, 1], [0, 0, 1], [0, 0, 1], [0, 1, 1]])

    def test_as_counted(self):
        for weights in FEW + SIX:
            for draws in (0, 1, 2, 5, 11, 12):
                with self.subTest(weights=weights, draws=draws):
                    mean = counting.mean_kinds(weights, draws)
                    more = counting.mean_kinds(weights, draws + 1)
                    even = counting.mean_kinds([1] * len(weights), draws)
                    self.assertEqual(asked(weights, ("meankinds", draws), ("adds", draws), ("evenkinds", draws)),
                                     [counting.told(mean), counting.told(more - mean), counting.told(even)])

    def test_the_average_is_that_of_all_numbers(self):
        for weights in FEW:
            for draws in range(6):
                mean = counting.over_rows(weights, draws, lambda row: len(set(row)))
                self.assertEqual(last(*kinds(*weights), ("meankinds", draws)), counting.told(mean))

    def test_alike_chances_make_most_and_each_draw_adds_less(self):
        for weights in FEW + SIX:
            found = asked(weights, *[(name, draws) for draws in range(13) for name in ("meankinds", "evenkinds", "adds")])
            values = [Fraction(*answer[1:]) for answer in found]
            for draws in range(2, 13):
                mean, even, adds = values[3 * draws:3 * draws + 3]
                self.assertLessEqual(mean, even)
                self.assertEqual(mean == even, len(set(weights)) == 1)
                if len(weights) > 1:
                    self.assertTrue(0 < adds < values[3 * draws - 1])

    def test_would_by_hand(self):
        self.assertEqual(asked((1, 3), ("wouldkinds", 0, 1, 2), ("wouldkinds", 1, 0, 2), ("wouldkinds", 0, 1, 0)),
                         [[0, 3, 2], [0, 3, 2], [0, 0, 1]])

    def test_would_is_the_mean_behind_level(self):
        for weights in ((2, 5, 20), (1, 19, 7, 1, 5, 5)):
            for one, other in permutations(range(len(weights)), 2):
                level = list(weights)
                level[one] = level[other] = (weights[one] + weights[other]) // 2
                for draws in (1, 2, 7, 12):
                    odd = (weights[one] + weights[other]) % 2
                    self.assertEqual(last(*kinds(*weights), ("wouldkinds", one, other, draws)),
                                     [-33] if odd else counting.told(counting.mean_kinds(level, draws)))

    def test_a_level_that_changes_nothing(self):
        found = asked((4, 4, 9), ("wouldkinds", 0, 1, 5), ("meankinds", 5))
        self.assertEqual(found[0], found[1])


class Needed(unittest.TestCase):
    def test_by_hand(self):
        self.assertEqual(asked((1, 1), *[("needed", above, 4) for above in (0, 1, 4, 5, 6, 7, 8)]),
                         [[0], [1], [1], [2], [2], [3], [-33]])

    def test_one_kind(self):
        self.assertEqual(asked((9,), ("needed", 0, 1), ("needed", 1, 100), ("needed", 100, 100), ("needed", 100, 99), ("needed", 2, 1)),
                         [[0], [1], [1], [-33], [-33]])

    def test_an_average_that_is_never_come_to(self):
        for weights in FEW[2:] + SIX:
            many = len(weights)
            found = asked(weights, ("needed", many, 1), ("needed", many + 1, 1), ("needed", 2 * many - 1, 2))
            self.assertEqual(found[:2], [[-33], [-33]])
            self.assertGreater(found[2][0], 0)

    def test_the_longest_there_is(self):
        # Nothing nearer to six kinds than 95 by 16 can be told, and no other weights take longer to come so near.
        weights = (1, 1, 20, 20, 20, 20)
        self.assertEqual(last(*kinds(*weights), ("needed", 95, 16)), [283])
        self.assertTrue(self.missing(weights, 283) <= Fraction(1, 16) < self.missing(weights, 282))

    def missing(self, weights, draws):
        return sum(Fraction(sum(weights) - weight, sum(weights)) ** draws for weight in weights)

    def test_so_many_and_no_fewer(self):
        for weights in FEW + SIX[1:3]:
            means = [counting.mean_kinds(weights, draws) for draws in range(41)]
            calls = [("needed", above, below) for above, below in ((1, 1), (3, 2), (2, 1), (19, 10), (7, 3), (5, 2), (13, 4), (9, 2))]
            for call, found in zip(calls, asked(weights, *calls)):
                enough = [draws for draws in range(41) if means[draws] >= Fraction(*call[1:])]
                if enough:
                    self.assertEqual(found, [enough[0]])
                else:
                    self.assertTrue(found == [-33] or found[0] > 40, (weights, call, found))

    def test_just_as_many_is_enough(self):
        self.assertEqual(asked((1, 2), ("needed", 13, 9), ("needed", 5, 3), ("needed", 100, 60)), [[2], [3], [3]])


class Seen(unittest.TestCase):
    def test_by_hand(self):
        self.assertEqual(asked((1, 2), ("seen", 0, 0), ("seen", 0, 1), ("seen", 0, 2), ("seen", 1, 2)),
                         [[0, 0, 1], [0, 1, 3], [0, 5, 9], [0, 8, 9]])
        self.assertEqual(asked((1, 2), ("both", 0, 1, 0), ("both", 0, 1, 1), ("both", 0, 1, 2), ("both", 1, 0, 3)),
                         [[0, 0, 1], [0, 0, 1], [0, 4, 9], [0, 2, 3]])
        self.assertEqual(asked((20,), ("seen", 0, 0), ("seen", 0, 1)), [[0, 0, 1], [0, 1, 1]])

    def test_over_all_rows_of_draws(self):
        for weights in FEW:
            for draws in range(5):
                for one in range(len(weights)):
                    rows = counting.over_rows(weights, draws, lambda row: one in row)
                    self.assertEqual(last(*kinds(*weights), ("seen", one, draws)), counting.told(rows))
                for one, other in permutations(range(len(weights)), 2):
                    rows = counting.over_rows(weights, draws, lambda row: one in row and other in row)
                    self.assertEqual(last(*kinds(*weights), ("both", one, other, draws)), counting.told(rows))

    def test_six_kinds_up_to_twelve_draws(self):
        for weights in SIX:
            for draws in (6, 12):
                sets = counting.had_sets(weights, (), draws)
                for one, other in combinations(range(6), 2):
                    likely = [sum((chance for had, chance in sets.items() if had >= wanted), Fraction(0))
                              for wanted in ({one}, {other}, {one, other})]
                    found = asked(weights, ("seen", one, draws), ("seen", other, draws), ("both", one, other, draws))
                    self.assertEqual(found, [counting.told(number) for number in likely])
                    self.assertLess(likely[2], likely[0] * likely[1])


if __name__ == "__main__":
    unittest.main()
