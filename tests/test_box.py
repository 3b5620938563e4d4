import unittest
from fractions import Fraction
from itertools import combinations
from math import comb

import counting
from asking import GREATEST, ask, last

SMALL = tuple((things, red) for things in range(1, 7) for red in range(things + 1))
GREAT = ((24, 0), (24, 1), (24, 12), (24, 7), (24, 23), (24, 24), (23, 11))


def with_box(things, red):
    """Each call of the stage, with all else in range wherever there is a red one."""
    box = (things, red)
    return (("boxjust", *box, 1, 1), ("boxall", *box, 1), ("boxlikeliest", *box, 1), ("boxmean", *box, 1), ("boxspread", *box, 1),
            ("boxatleast", *box, 1, 1), ("boxneeded", *box, 1, 1, 2), ("boxkthat", *box, 1, 1), ("boxkthmean", *box, 1),
            ("boxswapped", *box, 1, 1), ("boxguess", *box, 1, 1), ("boxcertain", *box, 1))


def all_wrong(things, red):
    """Each call of the stage, with all else wrong."""
    box = (things, red)
    far = GREATEST
    return (("boxjust", *box, far, far), ("boxall", *box, far), ("boxlikeliest", *box, far), ("boxmean", *box, far), ("boxspread", *box, far),
            ("boxatleast", *box, far, far), ("boxneeded", *box, far, 2, 1), ("boxkthat", *box, 0, 0), ("boxkthmean", *box, 0),
            ("boxswapped", *box, far, far), ("boxguess", *box, far, far), ("boxcertain", *box, far))


class Refusals(unittest.TestCase):
    def test_things_out_of_range_go_first(self):
        for box in ((0, 0), (25, 1), (25, 0), (GREATEST, 1), (0, 1), (5, 6), (1, 2), (24, 25), (24, GREATEST), (GREATEST, GREATEST)):
            for call in with_box(*box) + all_wrong(*box):
                with self.subTest(call=call):
                    self.assertEqual(last(call), [-22])

    def test_twenty_four_things_are_not_too_many(self):
        for box in ((24, 1), (24, 24), (1, 1)):
            for call in with_box(*box):
                with self.subTest(call=call):
                    self.assertEqual(last(call)[0] < 0, call == ("boxspread", 1, 1, 1))

    def test_more_drawn_than_there_are(self):
        for things, red in ((1, 0), (1, 1), (5, 2), (24, 24)):
            for drawn in (things + 1, GREATEST):
                for name in ("boxall", "boxlikeliest", "boxmean", "boxspread"):
                    self.assertEqual(last((name, things, red, drawn)), [-22])
                for name in ("boxjust", "boxatleast", "boxswapped", "boxguess"):
                    self.assertEqual(last((name, things, red, drawn, 0)), [-22])
            for name in ("boxall", "boxlikeliest", "boxmean"):
                self.assertGreaterEqual(last((name, things, red, things))[0], 0)
            for name in ("boxjust", "boxatleast", "boxswapped", "boxguess"):
                self.assertGreaterEqual(last((name, things, red, things, 0))[0], 0)

    def test_spread_of_one_thing(self):
        for red in (0, 1):
            self.assertEqual(ask(("boxspread", 1, red, 0), ("boxspread", 1, red, 1), ("boxspread", 1, red, 2)), [[-6], [-6], [-22]])
        self.assertEqual(ask(("boxspread", 2, 1, 1), ("boxspread", 2, 1, 3)), [[0, 1, 4], [-22]])

    def test_mean_of_one_thing(self):
        self.assertEqual(ask(("boxmean", 1, 1, 0), ("boxmean", 1, 1, 1), ("boxmean", 1, 0, 1)), [[0, 0, 1], [0, 1, 1], [0, 0, 1]])

    def test_too_few_red_go_ahead_of_a_wrong_draw(self):
        for k in (0, 3, GREATEST):
            self.assertEqual(ask(*[("boxkthat", 5, 2, k, n) for n in (0, 1, 5, 6, GREATEST)]), [[-33]] * 5)
            self.assertEqual(last(("boxkthmean", 5, 2, k)), [-33])
        for k in (1, 2):
            self.assertEqual(ask(*[("boxkthat", 5, 2, k, n) for n in (0, 6, GREATEST)]), [[-22]] * 3)
            self.assertEqual([answer[0] for answer in ask(*[("boxkthat", 5, 2, k, n) for n in range(1, 6)])], [0] * 5)
        self.assertEqual(ask(("boxkthat", 5, 0, 1, 1), ("boxkthmean", 5, 0, 1), ("boxkthat", 5, 0, 0, 0)), [[-33]] * 3)

    def test_needed_bounds(self):
        for a, c in ((0, 0), (0, 1001), (2, 1), (1001, 1000), (1, 0), (GREATEST, 1), (1, GREATEST), (GREATEST, GREATEST)):
            for k in (0, 1, 3):
                self.assertEqual(last(("boxneeded", 5, 2, k, a, c)), [-22])
        self.assertEqual(ask(("boxneeded", 5, 2, 1, 1000, 1000), ("boxneeded", 5, 2, 3, 1, 1000), ("boxneeded", 5, 2, GREATEST, 1, 1)),
                         [[4], [-33], [-33]])

    def test_guess_of_more_red_than_drawn(self):
        self.assertEqual(ask(("boxguess", 5, 2, 3, 4), ("boxguess", 5, 2, 0, 1), ("boxguess", 5, 2, 3, GREATEST), ("boxguess", 5, 0, 3, 3)),
                         [[-22], [-22], [-22], [5]])

    def test_certain_of_more_red_than_there_are(self):
        self.assertEqual(ask(("boxcertain", 5, 2, 3), ("boxcertain", 5, 0, 1), ("boxcertain", 5, 5, GREATEST), ("boxcertain", 5, 5, 5)),
                         [[-33], [-33], [-33], [5]])


class ByHand(unittest.TestCase):
    def test_numbers(self):
        self.assertEqual(ask(("boxall", 5, 2, 3), ("boxall", 5, 2, 0), ("boxall", 5, 2, 5), ("boxall", 5, 0, 2), ("boxall", 5, 5, 2)),
                         [[4, 1, 6, 3, 0], [1, 1], [6, 0, 0, 1, 0, 0, 0], [3, 10, 0, 0], [3, 0, 0, 10]])
        self.assertEqual(ask(*[("boxjust", 5, 2, 3, k) for k in (0, 1, 2, 3, 4, GREATEST)]),
                         [[0, 1, 10], [0, 3, 5], [0, 3, 10], [0, 0, 1], [0, 0, 1], [0, 0, 1]])
        self.assertEqual(ask(*[("boxatleast", 5, 2, 3, k) for k in (0, 1, 2, 3, 4, GREATEST)]),
                         [[0, 1, 1], [0, 9, 10], [0, 3, 10], [0, 0, 1], [0, 0, 1], [0, 0, 1]])

    def test_likeliest(self):
        self.assertEqual(ask(("boxlikeliest", 5, 2, 3), ("boxlikeliest", 5, 2, 0), ("boxlikeliest", 5, 5, 4), ("boxlikeliest", 5, 0, 4)),
                         [[1], [0], [4], [0]])

    def test_likeliest_of_like_ones_the_least(self):
        self.assertEqual(last(("boxall", 4, 2, 1)), [2, 2, 2])
        self.assertEqual(ask(("boxlikeliest", 4, 2, 1), ("boxlikeliest", 24, 12, 23)), [[0], [11]])

    def test_mean_and_spread(self):
        self.assertEqual(ask(("boxmean", 5, 2, 3), ("boxmean", 5, 2, 0), ("boxmean", 5, 2, 5), ("boxmean", 24, 24, 24)),
                         [[0, 6, 5], [0, 0, 1], [0, 2, 1], [0, 24, 1]])
        self.assertEqual(ask(("boxspread", 5, 2, 3), ("boxspread", 5, 2, 0), ("boxspread", 5, 2, 5), ("boxspread", 5, 0, 3), ("boxspread", 5, 5, 3)),
                         [[0, 9, 25], [0, 0, 1], [0, 0, 1], [0, 0, 1], [0, 0, 1]])

    def test_needed(self):
        self.assertEqual(ask(("boxneeded", 5, 2, 1, 1, 2), ("boxneeded", 5, 2, 1, 7, 10), ("boxneeded", 5, 2, 1, 71, 100), ("boxneeded", 5, 2, 1, 1, 1),
                             ("boxneeded", 5, 2, 2, 1, 10), ("boxneeded", 5, 2, 2, 1, 9), ("boxneeded", 5, 2, 2, 1, 1)),
                         [[2], [2], [3], [4], [2], [3], [5]])

    def test_needed_for_none_or_with_no_chance_at_all(self):
        self.assertEqual(ask(("boxneeded", 5, 2, 0, 1, 1), ("boxneeded", 5, 0, 0, 1, 1), ("boxneeded", 5, 2, 3, 0, 1), ("boxneeded", 5, 2, GREATEST, 0, 1000)),
                         [[0]] * 4)

    def test_the_kth(self):
        self.assertEqual(ask(*[("boxkthat", 5, 2, 1, n) for n in range(1, 6)]), [[0, 2, 5], [0, 3, 10], [0, 1, 5], [0, 1, 10], [0, 0, 1]])
        self.assertEqual(ask(*[("boxkthat", 5, 2, 2, n) for n in range(1, 6)]), [[0, 0, 1], [0, 1, 10], [0, 1, 5], [0, 3, 10], [0, 2, 5]])
        self.assertEqual(ask(("boxkthmean", 5, 2, 1), ("boxkthmean", 5, 2, 2), ("boxkthmean", 4, 2, 1), ("boxkthmean", 1, 1, 1), ("boxkthmean", 24, 24, 9)),
                         [[0, 2, 1], [0, 4, 1], [0, 5, 3], [0, 1, 1], [0, 9, 1]])

    def test_certain(self):
        self.assertEqual(ask(*[("boxcertain", 5, 2, k) for k in (0, 1, 2)]), [[0], [4], [5]])
        self.assertEqual(ask(("boxcertain", 24, 24, 7), ("boxcertain", 24, 0, 0), ("boxcertain", 1, 1, 1)), [[7], [0], [1]])

    def test_swapped(self):
        self.assertEqual(ask(*[("boxswapped", 5, 2, 3, k) for k in (0, 1, 2, 3, GREATEST)]), [[0, 1, 10], [0, 3, 5], [0, 3, 10], [0, 0, 1], [0, 0, 1]])

    def test_guess(self):
        # One red of three out of five: with one or two red ones six sets of ten each.
        self.assertEqual(ask(("boxguess", 5, 2, 3, 1), ("boxguess", 5, 5, 3, 1), ("boxguess", 5, 0, 3, 2), ("boxguess", 5, 0, 3, 0), ("boxguess", 5, 0, 0, 0),
                             ("boxguess", 5, 0, 5, 4), ("boxguess", 24, 3, 12, 6), ("boxguess", 4, 0, 1, 1)),
                         [[1], [1], [3], [0], [0], [4], [12], [4]])


class OverAllSets(unittest.TestCase):
    def test_numbers(self):
        for things, red in SMALL:
            for drawn in range(things + 1):
                reds = counting.box_sets(things, red, drawn)
                numbers = [reds.count(k) for k in range(drawn + 1)]
                self.assertEqual(ask(("boxall", things, red, drawn), ("boxlikeliest", things, red, drawn)),
                                 [[drawn + 1] + numbers, [counting.first_greatest(numbers)]])
                for k in range(things + 2):
                    just = Fraction(reds.count(k), len(reds))
                    least = Fraction(sum(number >= k for number in reds), len(reds))
                    self.assertEqual(ask(("boxjust", things, red, drawn, k), ("boxatleast", things, red, drawn, k)),
                                     [counting.told(just), counting.told(least)])

    def test_averages(self):
        for things, red in SMALL:
            for drawn in range(things + 1):
                reds = counting.box_sets(things, red, drawn)
                mean = Fraction(sum(reds), len(reds))
                spread = sum(((number - mean) ** 2 for number in reds), Fraction(0)) / len(reds)
                self.assertEqual(ask(("boxmean", things, red, drawn), ("boxspread", things, red, drawn)),
                                 [counting.told(mean), counting.told(spread) if things > 1 else [-6]])

    def test_draws_and_reds_change_places(self):
        for things, red in SMALL:
            for drawn in range(things + 1):
                reds = counting.box_sets(things, drawn, red)
                for k in range(things + 2):
                    found = ask(("boxswapped", things, red, drawn, k), ("boxjust", things, red, drawn, k))
                    self.assertEqual(found, [counting.told(Fraction(reds.count(k), len(reds)))] * 2)

    def test_the_kth_over_all_orders(self):
        for things, red in SMALL:
            orders = list(combinations(range(1, things + 1), red))
            for k in range(1, red + 1):
                places = [order[k - 1] for order in orders]
                self.assertEqual(ask(*[("boxkthat", things, red, k, n) for n in range(1, things + 1)]),
                                 [counting.told(Fraction(places.count(n), len(orders))) for n in range(1, things + 1)])
                self.assertEqual(last(("boxkthmean", things, red, k)), counting.told(Fraction(sum(places), len(orders))))

    def test_needed_and_certain(self):
        for things, red in SMALL:
            for k in range(things + 2):
                likely = []
                for drawn in range(things + 1):
                    reds = counting.box_sets(things, red, drawn)
                    likely.append(Fraction(sum(number >= k for number in reds), len(reds)))
                for a, c in ((0, 1), (1, 1000), (1, 3), (1, 2), (3, 5), (2, 3), (999, 1000), (1, 1)):
                    enough = [drawn for drawn in range(things + 1) if likely[drawn] >= Fraction(a, c)]
                    self.assertEqual(last(("boxneeded", things, red, k, a, c)), [enough[0]] if enough else [-33])
                certain = [drawn for drawn in range(things + 1) if likely[drawn] == 1]
                self.assertEqual(last(("boxcertain", things, red, k)), [certain[0]] if certain else [-33])

    def test_guess(self):
        for things, red in SMALL:
            for drawn in range(things + 1):
                for k in range(drawn + 1):
                    numbers = [counting.box_sets(things, guess, drawn).count(k) for guess in range(things + 1)]
                    self.assertEqual(last(("boxguess", things, red, drawn, k)), [counting.first_greatest(numbers)])


class ThingByThing(unittest.TestCase):
    def test_numbers_and_averages(self):
        for things, red in GREAT:
            for drawn in (0, 1, 2, 11, 12, things - 1, things):
                likely = counting.box_likely(things, red, drawn)
                chances = [likely.get(k, 0) for k in range(drawn + 1)]
                mean = sum(k * chance for k, chance in likely.items())
                spread = sum((k - mean) ** 2 * chance for k, chance in likely.items())
                with self.subTest(things=things, red=red, drawn=drawn):
                    self.assertEqual(ask(("boxall", things, red, drawn), ("boxlikeliest", things, red, drawn), ("boxmean", things, red, drawn),
                                         ("boxspread", things, red, drawn)),
                                     [[drawn + 1] + [chance * comb(things, drawn) for chance in chances], [counting.first_greatest(chances)],
                                      counting.told(mean), counting.told(spread)])
                    for k in (0, 1, 2, 5, drawn, drawn + 1):
                        just, least = likely.get(k, 0), sum(chances[k:])
                        swapped = counting.box_likely(things, drawn, red).get(k, 0)
                        self.assertEqual(ask(("boxjust", things, red, drawn, k), ("boxatleast", things, red, drawn, k), ("boxswapped", things, red, drawn, k)),
                                         [counting.told(just), counting.told(least), counting.told(swapped)])

    def test_nearer_together_than_with_putting_back(self):
        for things, red in SMALL[2:] + GREAT:
            for drawn in range(things + 1):
                spread = Fraction(*last(("boxspread", things, red, drawn))[1:])
                self.assertLessEqual(spread, drawn * Fraction(red, things) * Fraction(things - red, things))

    def test_the_kth_comes_for_certain(self):
        for things, red in GREAT:
            for k in sorted({1, 2, red // 2, red} & set(range(1, red + 1))):
                found = ask(*[("boxkthat", things, red, k, n) for n in range(1, things + 1)], ("boxkthmean", things, red, k))
                chances = [counting.box_kth_at(things, red, k, n) for n in range(1, things + 1)]
                self.assertEqual(sum(chances), 1)
                mean = sum(n * chance for n, chance in enumerate(chances, start=1))
                self.assertEqual(found, [counting.told(chance) for chance in chances + [mean]])

    def test_needed(self):
        for things, red in GREAT:
            for k in (0, 1, 5, 12, 24):
                for a, c in ((0, 1), (1, 2), (999, 1000), (1, 1)):
                    enough = [drawn for drawn in range(things + 1)
                              if sum(chance for reds, chance in counting.box_likely(things, red, drawn).items() if reds >= k) >= Fraction(a, c)]
                    self.assertEqual(last(("boxneeded", things, red, k, a, c)), enough[:1] or [-33])


if __name__ == "__main__":
    unittest.main()
