import unittest
from fractions import Fraction
from itertools import product

import counting
from asking import GREATEST, ask, everything, has, kinds, last

WEIGHTS = ((1,), (20,), (1, 1), (1, 2), (1, 20), (3, 3, 3), (1, 2, 3), (20, 1, 20), (4, 1, 6, 2),
           (1, 1, 20, 20, 7), (1, 2, 3, 4, 5, 6), (20, 20, 20, 20, 20, 1), (1, 1, 1, 1, 1, 20))


def had_by(counts):
    return {kind for kind, count in enumerate(counts) if count > 0}


def some_counts(weights):
    """Nothing, all, and what lies between."""
    many = len(weights)
    return ((0,) * many, (1,) * many, (2,) + (0,) * (many - 1), (0,) * (many - 1) + (1,),
            tuple(kind % 2 for kind in range(many)), tuple(3 * (kind % 3 == 0) for kind in range(many)))


class Mean(unittest.TestCase):
    def test_by_hand(self):
        self.assertEqual(last(*kinds(1, 2), ("mean", 0)), [0, 7, 2])
        self.assertEqual(last(*kinds(1, 2), ("got", 1, 0), ("mean", 1)), [0, 3, 2])
        self.assertEqual(last(*kinds(1, 2), ("got", 1, 1), ("mean", 1)), [0, 3, 1])
        self.assertEqual(last(*kinds(1, 1, 1), ("mean", 0)), [0, 11, 2])
        self.assertEqual(last(*kinds(5, 5, 5, 5, 5, 5), ("mean", 0)), [0, 147, 10])

    def test_no_kinds_and_nothing_lacking(self):
        self.assertEqual(ask(("mean", 0), ("mean", 1), ("meanboth",)), [[0, 0, 1]] * 3)
        self.assertEqual(last(*kinds(1, 2), *has(0, 1, 2), ("mean", 0)), [0, 0, 1])

    def test_one_kind(self):
        self.assertEqual(last(*kinds(20), ("mean", 1)), [0, 1, 1])

    def test_no_such_collector(self):
        self.assertEqual(last(("mean", 2)), [-2])
        self.assertEqual(last(*kinds(1), ("mean", GREATEST)), [-2])

    def test_as_counted(self):
        for weights in WEIGHTS:
            for counts in some_counts(weights):
                with self.subTest(weights=weights, counts=counts):
                    found = last(*kinds(*weights), *has(1, *counts), ("mean", 1))
                    self.assertEqual(found, counting.told(counting.mean(weights, had_by(counts))))


class Meanboth(unittest.TestCase):
    def test_by_hand(self):
        self.assertEqual(last(*kinds(1, 2), ("got", 0, 0), ("got", 1, 1), ("meanboth",)), [0, 0, 1])
        self.assertEqual(last(*kinds(1, 2), ("got", 0, 0), ("got", 1, 0), ("meanboth",)), [0, 3, 2])
        self.assertEqual(last(*kinds(1, 2), ("meanboth",)), [0, 7, 2])

    def test_no_later_than_either(self):
        for weights in ((1, 2, 3), (20, 1, 7)):
            for one, other in product(product((0, 1), repeat=3), repeat=2):
                found = ask(*kinds(*weights), *has(0, *one), *has(1, *other), ("mean", 0), ("mean", 1), ("meanboth",))
                means = [Fraction(*answer[1:]) for answer in found[-3:]]
                self.assertLessEqual(means[2], min(means[:2]))
                self.assertEqual(means[2], counting.mean(weights, had_by(one) | had_by(other)))


class Allby(unittest.TestCase):
    def test_by_hand(self):
        found = ask(*kinds(1, 2), *[("allby", 0, draws) for draws in range(4)])[2:]
        self.assertEqual(found, [[0, 0, 1], [0, 0, 1], [0, 4, 9], [0, 2, 3]])
        self.assertEqual(last(*kinds(1, 2), ("got", 0, 0), ("allby", 0, 1)), [0, 2, 3])

    def test_nothing_lacking(self):
        for draws in (0, 1, 20):
            self.assertEqual(last(*kinds(3, 4), *has(0, 1, 1), ("allby", 0, draws)), [0, 1, 1])

    def test_refusals_in_order(self):
        self.assertEqual(last(("allby", 2, 21)), [-2])
        self.assertEqual(last(("allby", 2, 0)), [-2])
        self.assertEqual(last(("allby", 0, 21)), [-22])
        self.assertEqual(last(("allby", 1, 20)), [-6])
        self.assertEqual(last(*kinds(1), ("allby", 2, 21)), [-2])
        self.assertEqual(last(*kinds(1), ("allby", 1, 21)), [-22])
        self.assertEqual(last(*kinds(1), ("allby", 1, GREATEST)), [-22])
        self.assertEqual(last(*kinds(1), ("allby", 1, 20)), [0, 1, 1])

    def test_over_all_rows_of_draws(self):
        for weights in ((1, 2), (1, 2, 3), (5, 5, 1), (20, 1, 3, 4)):
            for draws in range(6):
                found = last(*kinds(*weights), *has(0, 1), ("allby", 0, draws))
                full = set(range(len(weights)))
                rows = counting.over_rows(weights, draws, lambda row: {0} | set(row) == full)
                self.assertEqual(found, counting.told(rows))

    def test_as_counted_up_to_twenty(self):
        for weights in WEIGHTS:
            for counts in some_counts(weights)[::2]:
                for draws in (0, 1, 2, 5, 6, 7, 19, 20):
                    with self.subTest(weights=weights, counts=counts, draws=draws):
                        found = last(*kinds(*weights), *has(1, *counts), ("allby", 1, draws))
                        self.assertEqual(found, counting.told(counting.all_by(weights, had_by(counts), draws)))


class Half(unittest.TestCase):
    def test_by_hand(self):
        self.assertEqual(last(*kinds(1, 2), ("half", 0)), [3])
        self.assertEqual(last(*kinds(20), ("half", 0)), [1])

    def test_just_as_likely_as_not_is_enough(self):
        self.assertEqual(last(*kinds(7, 7), ("half", 0)), [2])
        self.assertEqual(last(*kinds(7, 7), ("got", 0, 1), ("half", 0)), [1])

    def test_nothing_lacking(self):
        self.assertEqual(last(*kinds(1, 20), *has(1, 1, 3), ("half", 1)), [0])

    def test_refusals_in_order(self):
        self.assertEqual(last(("half", 2)), [-2])
        self.assertEqual(last(("half", 1)), [-6])
        self.assertEqual(last(*kinds(1), ("half", 2)), [-2])

    def test_as_counted(self):
        for weights in WEIGHTS + ((1, 1, 20, 20, 20, 20), (1, 1, 1, 20, 20, 20)):
            for counts in some_counts(weights):
                with self.subTest(weights=weights, counts=counts):
                    found = last(*kinds(*weights), *has(0, *counts), ("half", 0))
                    self.assertEqual(found, [counting.half(weights, had_by(counts))])


class Worth(unittest.TestCase):
    def test_by_hand(self):
        self.assertEqual(last(*kinds(1, 2), ("worth", 0, 0)), [0, 2, 1])
        self.assertEqual(last(*kinds(1, 2), ("worth", 1, 1)), [0, 1, 2])
        self.assertEqual(last(*kinds(1), ("worth", 0, 0)), [0, 1, 1])

    def test_one_had_already_is_worth_nothing(self):
        self.assertEqual(last(*kinds(1, 2), ("got", 0, 0), ("worth", 0, 0)), [0, 0, 1])
        self.assertEqual(last(*kinds(1, 2), *has(0, 100), ("worth", 0, 0)), [0, 0, 1])

    def test_no_such(self):
        self.assertEqual(last(("worth", 0, 0)), [-2])
        self.assertEqual(last(*kinds(1), ("worth", 2, 0)), [-2])
        self.assertEqual(last(*kinds(1), ("worth", 0, 1)), [-2])

    def test_as_counted(self):
        for weights in WEIGHTS:
            for counts in some_counts(weights):
                for kind in range(len(weights)):
                    found = last(*kinds(*weights), *has(0, *counts), ("worth", 0, kind))
                    had = had_by(counts)
                    less = counting.mean(weights, had) - counting.mean(weights, had | {kind})
                    self.assertEqual(found, counting.told(less))
                    self.assertEqual(found[1] > 0, counts[kind] == 0)


class Ahead(unittest.TestCase):
    def test_whose_mean_is_less(self):
        self.assertEqual(last(*kinds(1, 2), ("got", 0, 0), ("got", 1, 1), ("ahead",)), [1])
        self.assertEqual(last(*kinds(1, 2), ("got", 0, 1), ("got", 1, 0), ("ahead",)), [2])
        self.assertEqual(last(*kinds(1, 2), ("got", 0, 1), ("ahead",)), [1])
        self.assertEqual(last(*kinds(1, 2), ("got", 1, 1), ("ahead",)), [2])

    def test_both_alike(self):
        self.assertEqual(last(("ahead",)), [0])
        self.assertEqual(last(*kinds(1, 2), ("ahead",)), [0])
        self.assertEqual(last(*kinds(2, 2), ("got", 0, 1), ("got", 1, 0), ("ahead",)), [0])
        self.assertEqual(last(*kinds(2, 2), *has(0, 5, 5), *has(1, 1, 1), ("ahead",)), [0])
        self.assertEqual(last(*kinds(2, 2), *has(0, 5), *has(1, 1), ("ahead",)), [0])

    def test_fewer_lacking_may_still_be_behind(self):
        self.assertEqual(last(*kinds(20, 20, 1), *has(0, 1, 1, 0), *has(1, 0, 0, 1), ("ahead",)), [2])


class Fresh(unittest.TestCase):
    def test_by_hand(self):
        self.assertEqual(last(*kinds(1, 2), ("fresh", 0, 2)), [0, 13, 9])
        self.assertEqual(last(*kinds(1, 2), ("got", 0, 0), ("fresh", 0, 2)), [0, 8, 9])
        self.assertEqual(last(*kinds(1, 2), ("fresh", 0, 1)), [0, 1, 1])
        self.assertEqual(last(*kinds(1, 2), ("fresh", 0, 0)), [0, 0, 1])

    def test_nothing_lacking(self):
        self.assertEqual(last(*kinds(1, 2), *has(1, 1, 1), ("fresh", 1, 12)), [0, 0, 1])

    def test_refusals_in_order(self):
        self.assertEqual(last(("fresh", 2, 13)), [-2])
        self.assertEqual(last(("fresh", 2, 1)), [-2])
        self.assertEqual(last(("fresh", 0, 13)), [-22])
        self.assertEqual(last(("fresh", 0, 12)), [-6])
        self.assertEqual(last(*kinds(1), ("fresh", 2, 13)), [-2])
        self.assertEqual(last(*kinds(1), ("fresh", 1, 13)), [-22])
        self.assertEqual(last(*kinds(1), ("fresh", 1, 12)), [0, 1, 1])

    def test_over_all_rows_of_draws(self):
        for weights in ((1, 2), (1, 2, 3), (20, 1, 3, 4)):
            for draws in range(6):
                found = last(*kinds(*weights), *has(0, 1), ("fresh", 0, draws))
                rows = counting.over_rows(weights, draws, lambda row: len(set(row) - {0}))
                self.assertEqual(found, counting.told(rows))

    def test_as_counted_up_to_twelve(self):
        for weights in WEIGHTS:
            for counts in some_counts(weights):
                for draws in (0, 1, 2, 6, 11, 12):
                    with self.subTest(weights=weights, counts=counts, draws=draws):
                        found = last(*kinds(*weights), *has(1, *counts), ("fresh", 1, draws))
                        self.assertEqual(found, counting.told(counting.fresh(weights, had_by(counts), draws)))


class AskedChangesNothing(unittest.TestCase):
    def test_all_calls_of_point_three(self):
        weights = (1, 2, 20)
        ahead = kinds(*weights) + has(0, 2, 0, 1) + has(1, 0, 4)
        shown = everything(weights)
        before = ask(*ahead, *shown)[len(ahead):]
        for call in (("mean", 0), ("mean", 2), ("meanboth",), ("allby", 0, 20), ("allby", 0, 21), ("half", 1), ("worth", 0, 1),
                     ("worth", 1, 0), ("ahead",), ("fresh", 0, 12), ("fresh", 0, 13), ("lacking", 0), ("doubles", 1)):
            with self.subTest(call=call):
                self.assertEqual(ask(*ahead, call, *shown)[len(ahead) + 1:], before)


if __name__ == "__main__":
    unittest.main()
