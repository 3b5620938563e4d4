import unittest
from fractions import Fraction
from itertools import combinations

import counting
from asking import GREATEST, ask, everything, has, kinds, last

FEW = ((1,), (20,), (1, 1), (1, 2), (20, 1), (3, 3, 3), (1, 2, 3), (2, 20, 1, 5))
SIX = ((1, 1, 1, 1, 1, 1), (1, 2, 3, 4, 5, 6), (20, 20, 1, 1, 1, 20), (20, 20, 20, 20, 20, 20))
BY_NUMBER = ("different", "alike", "pairs", "first", "evendifferent", "three", "products")


def pairs_alike(row):
    return sum(one == other for one, other in combinations(row, 2))


def is_different(row):
    return len(set(row)) == len(row)


class Refusals(unittest.TestCase):
    def test_no_kinds_goes_first(self):
        for name in BY_NUMBER:
            for number in (0, 1, 10, 11, GREATEST):
                self.assertEqual(last((name, number)), [-6])
        self.assertEqual(ask(("alikehalf",), ("meanfirst",), ("squares",)), [[-6]] * 3)
        self.assertEqual(ask(("chance", 0), ("chance", GREATEST)), [[-6]] * 2)
        self.assertEqual(ask(("would", 0, 1, 2), ("would", 0, 0, 2), ("would", 0, 1, 11)), [[-6]] * 3)

    def test_eleven_draws_are_too_many(self):
        for name in BY_NUMBER:
            for number in (11, GREATEST):
                self.assertEqual(last(*kinds(1, 2), (name, number)), [-22])
            self.assertGreaterEqual(last(*kinds(1, 2), (name, 10))[0], 0)

    def test_first_of_no_draws(self):
        for weights in FEW:
            self.assertEqual(last(*kinds(*weights), ("first", 0)), [-22])

    def test_they_change_nothing(self):
        weights = (1, 3, 20)
        ahead = kinds(*weights) + has(0, 2, 0, 1)
        shown = everything(weights)
        before = ask(*ahead, *shown)[len(ahead):]
        calls = [(name, number) for name in BY_NUMBER for number in (0, 2, 11)]
        calls += [("alikehalf",), ("meanfirst",), ("with_more", 5, 2), ("with_more", 0, 2), ("chance", 3), ("would", 0, 1, 2),
                  ("would", 0, 2, 2), ("would", 0, 0, 2), ("would", 0, 3, 2)]
        for call in calls:
            with self.subTest(call=call):
                self.assertEqual(ask(*ahead, call, *shown)[len(ahead) + 1:], before)


class Different(unittest.TestCase):
    def test_by_hand(self):
        found = ask(*kinds(1, 2), *[("different", number) for number in (0, 1, 2, 3, 10)])[2:]
        self.assertEqual(found, [[0, 1, 1], [0, 1, 1], [0, 4, 9], [0, 0, 1], [0, 0, 1]])
        self.assertEqual(last(*kinds(1, 1, 1, 1, 1, 1), ("different", 6)), [0, 5, 324])

    def test_alike_by_hand(self):
        found = ask(*kinds(1, 2), *[("alike", number) for number in (0, 1, 2, 3, 10)])[2:]
        self.assertEqual(found, [[0, 0, 1], [0, 0, 1], [0, 5, 9], [0, 1, 1], [0, 1, 1]])

    def test_one_kind(self):
        self.assertEqual(ask(*kinds(9), ("different", 1), ("different", 2), ("alike", 2))[1:], [[0, 1, 1], [0, 0, 1], [0, 1, 1]])

    def test_over_all_rows_of_draws(self):
        for weights in FEW:
            for draws in range(6):
                rows = counting.over_rows(weights, draws, is_different)
                self.assertEqual(last(*kinds(*weights), ("different", draws)), counting.told(rows))
                self.assertEqual(last(*kinds(*weights), ("alike", draws)), counting.told(1 - rows))

    def test_six_kinds_up_to_ten_draws(self):
        for weights in SIX:
            for draws in (0, 1, 2, 5, 6, 7, 10):
                rows = counting.over_counts(weights, draws, lambda counts: max(counts) < 2)
                self.assertEqual(last(*kinds(*weights), ("different", draws)), counting.told(rows))
                self.assertEqual(last(*kinds(*weights), ("alike", draws)), counting.told(1 - rows))


class Evendifferent(unittest.TestCase):
    def test_by_hand(self):
        found = ask(*kinds(1, 2), *[("evendifferent", number) for number in (0, 1, 2, 3, 10)])[2:]
        self.assertEqual(found, [[0, 1, 1], [0, 1, 1], [0, 1, 2], [0, 0, 1], [0, 0, 1]])
        self.assertEqual(last(*kinds(1, 2, 20), ("evendifferent", 3)), [0, 2, 9])

    def test_nothing_is_likelier_different_than_alike_chances(self):
        for weights in FEW + SIX:
            for draws in range(11):
                found = ask(*kinds(*weights), ("different", draws), ("evendifferent", draws))[-2:]
                different, even = [Fraction(*answer[1:]) for answer in found]
                self.assertLessEqual(different, even)
                if 2 <= draws <= len(weights):
                    self.assertEqual(different == even, len(set(weights)) == 1)
                self.assertEqual(found[1], last(*kinds(*([1] * len(weights))), ("different", draws)))


class Pairs(unittest.TestCase):
    def test_by_hand(self):
        found = ask(*kinds(1, 2), *[("pairs", number) for number in (0, 1, 2, 3, 10)])[2:]
        self.assertEqual(found, [[0, 0, 1], [0, 0, 1], [0, 5, 9], [0, 5, 3], [0, 25, 1]])
        self.assertEqual(last(*kinds(4), ("pairs", 10)), [0, 45, 1])

    def test_over_all_rows_of_draws(self):
        for weights in FEW:
            for draws in range(6):
                rows = counting.over_rows(weights, draws, pairs_alike)
                self.assertEqual(last(*kinds(*weights), ("pairs", draws)), counting.told(rows))


class Three(unittest.TestCase):
    def test_by_hand(self):
        found = ask(*kinds(1, 2), *[("three", number) for number in (0, 1, 2, 3, 4, 5, 10)])[2:]
        self.assertEqual(found, [[0, 0, 1], [0, 0, 1], [0, 0, 1], [0, 1, 3], [0, 19, 27], [0, 1, 1], [0, 1, 1]])

    def test_over_all_rows_of_draws(self):
        for weights in FEW:
            for draws in range(6):
                rows = counting.over_rows(weights, draws, lambda row: any(row.count(kind) > 2 for kind in row))
                self.assertEqual(last(*kinds(*weights), ("three", draws)), counting.told(rows))

    def test_six_kinds_up_to_ten_draws(self):
        for weights in SIX:
            for draws in (2, 3, 7, 10):
                rows = counting.over_counts(weights, draws, lambda counts: max(counts) > 2)
                self.assertEqual(last(*kinds(*weights), ("three", draws)), counting.told(rows))


class FirstAlike(unittest.TestCase):
    def test_by_hand(self):
        found = ask(*kinds(1, 2), *[("first", number) for number in (1, 2, 3, 4, 10)])[2:]
        self.assertEqual(found, [[0, 0, 1], [0, 5, 9], [0, 4, 9], [0, 0, 1], [0, 0, 1]])
        self.assertEqual(last(*kinds(1, 2), ("meanfirst",)), [0, 22, 9])
        self.assertEqual(last(*kinds(3), ("meanfirst",)), [0, 2, 1])

    def test_over_all_rows_of_draws(self):
        for weights in FEW:
            for draws in range(1, 6):
                rows = counting.over_rows(weights, draws, lambda row: is_different(row[:-1]) and not is_different(row))
                self.assertEqual(last(*kinds(*weights), ("first", draws)), counting.told(rows))

    def test_it_comes_for_certain_and_so_many_draws_on_the_average(self):
        for weights in FEW + SIX:
            asked = [("first", draws) for draws in range(1, 11)]
            found = ask(*kinds(*weights), *asked, ("meanfirst",))[len(weights):]
            likely = [Fraction(*answer[1:]) for answer in found[:-1]]
            self.assertEqual(sum(likely[:len(weights) + 1]), 1)
            mean = sum(draws * chance for draws, chance in enumerate(likely, start=1))
            self.assertEqual(found[-1], counting.told(mean))

    def test_half_by_hand(self):
        self.assertEqual(last(*kinds(5), ("alikehalf",)), [2])
        self.assertEqual(last(*kinds(1, 2), ("alikehalf",)), [2])
        self.assertEqual(last(*kinds(1, 1, 1), ("alikehalf",)), [3])
        self.assertEqual(last(*kinds(1, 1, 1, 1, 1, 1), ("alikehalf",)), [4])

    def test_half_just_as_likely_as_not_is_enough(self):
        self.assertEqual(last(*kinds(6, 6), ("alikehalf",)), [2])

    def test_half_as_counted(self):
        for weights in FEW + SIX + ((2, 1, 1), (20, 1, 1, 1, 1, 1), (3, 2, 2, 1)):
            found = last(*kinds(*weights), ("alikehalf",))[0]
            for draws in range(8):
                alike = counting.over_counts(weights, draws, lambda counts: max(counts) > 1)
                self.assertEqual(alike >= Fraction(1, 2), draws >= found)


class Sums(unittest.TestCase):
    def test_products_by_hand(self):
        found = ask(*kinds(2, 3, 5), *[("products", number) for number in (0, 1, 2, 3, 4, 10)])[3:]
        self.assertEqual(found, [[0, 1], [0, 10], [0, 31], [0, 30], [0, 0], [0, 0]])
        self.assertEqual(last(*kinds(20, 20, 20, 20, 20, 20), ("products", 6)), [0, 64000000])

    def test_products_as_counted(self):
        for weights in FEW + SIX:
            for size in range(11):
                self.assertEqual(last(*kinds(*weights), ("products", size)), [0, counting.products(weights, size)])

    def test_squares(self):
        self.assertEqual(last(*kinds(1, 20, 3), ("squares",)), [410])
        self.assertEqual(last(*kinds(7), ("squares",)), [49])

    def test_chance(self):
        found = ask(*kinds(2, 3, 5), ("chance", 0), ("chance", 1), ("chance", 2), ("chance", 3), ("chance", GREATEST))[3:]
        self.assertEqual(found, [[0, 1, 5], [0, 3, 10], [0, 1, 2], [-2], [-2]])
        self.assertEqual(last(*kinds(20), ("chance", 0)), [0, 1, 1])


class WithMore(unittest.TestCase):
    def test_by_hand(self):
        self.assertEqual(last(*kinds(1, 2), ("with_more", 3, 2)), [0, 11, 18])
        self.assertEqual(last(*kinds(1, 2), ("with_more", 3, 0)), [0, 1, 1])
        self.assertEqual(last(*kinds(1, 2), ("with_more", 3, 10)), [0, 0, 1])

    def test_also_if_there_are_none(self):
        self.assertEqual(ask(("with_more", 3, 0), ("with_more", 3, 1), ("with_more", 3, 2)), [[0, 1, 1], [0, 1, 1], [0, 0, 1]])

    def test_as_different_with_that_kind(self):
        for weights in FEW:
            for weight in (1, 7, 20):
                for draws in range(11):
                    self.assertEqual(last(*kinds(*weights), ("with_more", weight, draws)),
                                     last(*kinds(*weights, weight), ("different", draws)))

    def test_refusals_in_order(self):
        for ahead in ((), kinds(1), kinds(1, 2, 3, 4, 5, 6)):
            for weight, draws in ((0, 2), (21, 2), (1, 11), (20, GREATEST), (0, 11)):
                self.assertEqual(last(*ahead, ("with_more", weight, draws)), [-22])
        self.assertEqual(last(*kinds(1, 2, 3, 4, 5, 6), ("with_more", 1, 10)), [-28])
        self.assertEqual(last(*kinds(1, 2, 3, 4, 5), ("with_more", 6, 6)), [0, 6400, 1058841])


class Would(unittest.TestCase):
    def test_by_hand(self):
        self.assertEqual(last(*kinds(1, 3), ("would", 0, 1, 2)), [0, 1, 2])
        self.assertEqual(last(*kinds(1, 3), ("would", 1, 0, 0)), [0, 1, 1])
        self.assertEqual(last(*kinds(1, 3), ("would", 1, 0, 10)), [0, 0, 1])

    def test_as_different_behind_level(self):
        self.assertEqual(last(*kinds(2, 5, 20), ("would", 0, 2, 2)), last(*kinds(11, 5, 11), ("different", 2)))
        self.assertEqual(last(*kinds(2, 5, 20), ("would", 2, 0, 3)), last(*kinds(11, 5, 11), ("different", 3)))

    def test_a_level_that_changes_nothing(self):
        self.assertEqual(last(*kinds(4, 4, 9), ("would", 0, 1, 2)), last(*kinds(4, 4, 9), ("different", 2)))

    def test_two_made_alike_are_no_less_likely_different(self):
        for weights in ((1, 3, 5), (20, 2, 4, 8), (1, 19, 7, 1, 5, 5)):
            for one, other in combinations(range(len(weights)), 2):
                for draws in range(len(weights) + 2):
                    found = ask(*kinds(*weights), ("would", one, other, draws), ("different", draws))[-2:]
                    if found[0] != [-33]:
                        self.assertGreaterEqual(Fraction(*found[0][1:]), Fraction(*found[1][1:]))

    def test_refusals_in_order(self):
        odd = kinds(1, 2)
        self.assertEqual(last(*odd, ("would", 0, 1, 2)), [-33])
        self.assertEqual(last(*odd, ("would", 0, 1, 11)), [-22])
        self.assertEqual(last(*odd, ("would", 0, 0, 2)), [-22])
        self.assertEqual(last(*odd, ("would", 0, 2, 11)), [-2])
        self.assertEqual(last(*odd, ("would", 2, 0, 2)), [-2])
        self.assertEqual(last(*odd, ("would", 2, 2, 11)), [-2])


if __name__ == "__main__":
    unittest.main()
