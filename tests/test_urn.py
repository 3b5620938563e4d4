import unittest
from fractions import Fraction
from itertools import permutations, product
from math import factorial

import counting
from asking import GREATEST, ask, last

# How many more, then how many balls of either colour.
URNS = ((0, 1, 2), (0, 10, 10), (1, 1, 1), (1, 2, 3), (2, 0, 3), (2, 3, 0), (3, 1, 10), (5, 1, 1), (5, 10, 7), (0, 0, 1), (5, 10, 0))
NO_MORE_FIELDS = (0, 0, 0, 0, 0, 0)


def row_call(urn, row):
    return ("urnrow", *urn, len(row), *row, *NO_MORE_FIELDS[len(row):])


def with_urn(urn):
    """Each call of the stage, with all else in range."""
    return (("urnchance", *urn, 0), ("urnrow", *urn, 2, 0, 1, 0, 0, 0, 0), ("urncounts", *urn, 1, 1, 0, 0), ("urnjust", *urn, 0, 2, 1),
            ("urnall", *urn, 0, 2), ("urntwo", *urn, 0, 1), ("urnmean", *urn, 0, 2), ("urnthen", *urn, 0, 2),
            ("urnlikeliest", *urn, 0, 2), ("urnone", *urn, 2))


def all_wrong(urn):
    """Each call of the stage, with all else wrong."""
    return (("urnchance", *urn, 2), ("urnrow", *urn, 7, 2, 2, 2, 2, 2, 2), ("urncounts", *urn, 9, 9, 9, 9), ("urnjust", *urn, 2, 9, 9),
            ("urnall", *urn, 2, 9), ("urntwo", *urn, 2, 2), ("urnmean", *urn, 2, 1001), ("urnthen", *urn, 2, 1001),
            ("urnlikeliest", *urn, 2, 9), ("urnone", *urn, 9))


class Refusals(unittest.TestCase):
    def test_an_urn_out_of_range_goes_first(self):
        for urn in ((6, 1, 1), (0, 11, 1), (0, 1, 11), (6, 0, 0), (5, 11, 0), (5, 0, 11), (GREATEST, 1, 1), (0, GREATEST, 0), (0, 0, GREATEST)):
            for call in with_urn(urn) + all_wrong(urn):
                with self.subTest(call=call):
                    self.assertEqual(last(call), [-22])

    def test_no_balls_goes_next(self):
        for more in (0, 5):
            for call in with_urn((more, 0, 0)) + all_wrong((more, 0, 0)):
                with self.subTest(call=call):
                    self.assertEqual(last(call), [-6])

    def test_no_balls_and_no_draws(self):
        self.assertEqual(ask(row_call((1, 0, 0), ()), ("urncounts", 1, 0, 0, 0, 0, 0, 0), ("urnone", 1, 0, 0, 0), ("urnall", 1, 0, 0, 0, 0)),
                         [[-6]] * 4)

    def test_no_such_colour_goes_ahead_of_too_many_draws(self):
        for urn in ((5, 10, 10), (0, 0, 1)):
            for name in ("urnall", "urnmean", "urnthen", "urnlikeliest"):
                for colour in (2, GREATEST):
                    self.assertEqual(ask((name, *urn, colour, 2), (name, *urn, colour, GREATEST)), [[-2]] * 2)
            self.assertEqual(ask(("urnchance", *urn, 2), ("urntwo", *urn, 2, 0), ("urntwo", *urn, 0, 2), ("urntwo", *urn, 1, GREATEST),
                                 ("urnjust", *urn, 2, 2, 1), ("urnjust", *urn, 2, 9, 1)), [[-2]] * 6)

    def test_eight_draws_and_one_more(self):
        for urn in URNS:
            for colour in (0, 1):
                found = ask(("urnjust", *urn, colour, 8, 3), ("urnjust", *urn, colour, 9, 3), ("urnall", *urn, colour, 8),
                            ("urnall", *urn, colour, 9), ("urnlikeliest", *urn, colour, 8), ("urnlikeliest", *urn, colour, 9),
                            ("urnone", *urn, 8), ("urnone", *urn, 9), ("urnone", *urn, GREATEST))
                self.assertEqual([answer[0] < 0 for answer in found], [False, True] * 4 + [True])
                self.assertEqual([answer for answer in found if answer[0] < 0], [[-22]] * 5)

    def test_a_thousand_draws_and_one_more(self):
        for name in ("urnmean", "urnthen"):
            self.assertEqual([answer[0] for answer in ask((name, 1, 2, 3, 0, 1000), (name, 1, 2, 3, 0, 1001), (name, 1, 2, 3, 1, GREATEST))],
                             [0, -22, -22])

    def test_rows_of_six_and_one_more(self):
        self.assertEqual(last(("urnrow", 1, 1, 1, 6, 0, 0, 0, 0, 0, 0)), [0, 1, 7])
        for many in (7, 8, GREATEST):
            self.assertEqual(last(("urnrow", 1, 1, 1, many, 0, 0, 0, 0, 0, 0)), [-22])

    def test_each_of_the_first_of_a_row_must_be_a_colour(self):
        for many in range(7):
            for place in range(6):
                for wrong in (2, GREATEST):
                    row = [0] * 6
                    row[place] = wrong
                    found = last(("urnrow", 0, 1, 1, many, *row))
                    self.assertEqual(found, [-22] if place < many else [0, 1, 2 ** many])

    def test_counts_of_eight_together_and_one_more(self):
        for a, b in ((8, 0), (0, 8), (4, 4), (1, 7)):
            self.assertEqual(last(("urncounts", 1, 1, 1, a, b, 0, 0)), [0, 1, 9])
        for a, b in ((9, 0), (0, 9), (8, 1), (5, 4), (GREATEST, 0), (0, GREATEST), (GREATEST, GREATEST)):
            self.assertEqual(last(("urncounts", 1, 1, 1, a, b, 0, 0)), [-22])

    def test_counts_of_colours_that_are_not_there_are_no_matter(self):
        for c, d in ((0, 0), (1, 0), (0, 1), (9, 9), (GREATEST, GREATEST)):
            self.assertEqual(last(("urncounts", 1, 2, 3, 1, 1, c, d)), [0, 2, 5])
            self.assertEqual(last(("urncounts", 1, 2, 3, 5, 4, c, d)), [-22])


class ByHand(unittest.TestCase):
    def test_chance(self):
        self.assertEqual(ask(("urnchance", 1, 2, 4, 0), ("urnchance", 0, 2, 4, 1), ("urnchance", 5, 0, 4, 0), ("urnchance", 5, 0, 4, 1)),
                         [[0, 1, 3], [0, 2, 3], [0, 0, 1], [0, 1, 1]])

    def test_two(self):
        self.assertEqual(ask(("urntwo", 1, 1, 1, 0, 0), ("urntwo", 1, 1, 1, 0, 1), ("urntwo", 0, 1, 2, 1, 1), ("urntwo", 5, 2, 1, 0, 1),
                             ("urntwo", 5, 2, 1, 1, 1), ("urntwo", 2, 0, 3, 1, 0)),
                         [[0, 1, 3], [0, 1, 6], [0, 4, 9], [0, 1, 12], [0, 1, 4], [0, 0, 1]])

    def test_row(self):
        self.assertEqual(ask(row_call((2, 1, 2), (0, 1, 0)), row_call((2, 1, 2), ()), row_call((0, 1, 2), (0, 1, 1)), row_call((1, 0, 2), (1, 0))),
                         [[0, 2, 35], [0, 1, 1], [0, 4, 27], [0, 0, 1]])

    def test_all_and_likeliest(self):
        self.assertEqual(ask(("urnall", 2, 1, 2, 0, 2), ("urnall", 2, 1, 2, 1, 2), ("urnall", 0, 1, 2, 0, 2), ("urnall", 2, 0, 3, 0, 2),
                             ("urnall", 3, 1, 1, 1, 0), ("urnall", 2, 4, 3, 1, 1)),
                         [[3, 8, 4, 3], [3, 3, 4, 8], [3, 4, 4, 1], [3, 15, 0, 0], [1, 1], [2, 4, 3]])
        self.assertEqual(ask(("urnlikeliest", 2, 1, 2, 0, 2), ("urnlikeliest", 2, 1, 2, 1, 2), ("urnlikeliest", 2, 0, 3, 1, 5),
                             ("urnlikeliest", 2, 0, 3, 0, 5), ("urnlikeliest", 1, 2, 2, 0, 2), ("urnlikeliest", 3, 1, 1, 1, 0)),
                         [[0], [2], [5], [0], [1], [0]])

    def test_likeliest_of_like_ones_the_least(self):
        self.assertEqual(ask(("urnlikeliest", 1, 1, 1, 0, 8), ("urnlikeliest", 0, 1, 2, 0, 2), ("urnlikeliest", 0, 2, 1, 0, 2),
                             ("urnlikeliest", 5, 3, 3, 0, 1)), [[0], [0], [1], [0]])

    def test_just_and_counts(self):
        self.assertEqual(ask(("urnjust", 0, 1, 2, 0, 2, 1), ("urnjust", 0, 1, 2, 0, 2, 0), ("urnjust", 0, 1, 2, 1, 2, 2), ("urnjust", 0, 1, 2, 1, 2, 3),
                             ("urnjust", 0, 1, 2, 1, 2, GREATEST), ("urnjust", 4, 1, 2, 1, 0, 0), ("urnjust", 4, 1, 2, 1, 0, 1)),
                         [[0, 4, 9], [0, 4, 9], [0, 4, 9], [0, 0, 1], [0, 0, 1], [0, 1, 1], [0, 0, 1]])
        self.assertEqual(ask(("urncounts", 2, 1, 2, 2, 0, 0, 0), ("urncounts", 2, 1, 2, 0, 2, 0, 0), ("urncounts", 2, 1, 2, 1, 1, 0, 0),
                             ("urncounts", 2, 1, 2, 0, 0, 0, 0), ("urncounts", 2, 0, 2, 1, 1, 0, 0)),
                         [[0, 1, 5], [0, 8, 15], [0, 4, 15], [0, 1, 1], [0, 0, 1]])

    def test_one(self):
        self.assertEqual(ask(("urnone", 1, 1, 1, 0), ("urnone", 1, 1, 1, 1), ("urnone", 1, 1, 1, 2), ("urnone", 0, 1, 1, 8), ("urnone", 5, 0, 3, 8),
                             ("urnone", 5, 0, 3, 0), ("urnone", 5, 10, 10, 8)),
                         [[0, 1, 1], [0, 1, 1], [0, 2, 3], [0, 1, 128], [0, 1, 1], [0, 1, 1], [0, 6, 55]])

    def test_averages(self):
        self.assertEqual(ask(("urnmean", 3, 1, 2, 0, 1000), ("urnmean", 3, 1, 2, 1, 1), ("urnmean", 3, 1, 2, 1, 0), ("urnmean", 3, 0, 2, 0, 9)),
                         [[0, 1000, 3], [0, 2, 3], [0, 0, 1], [0, 0, 1]])
        self.assertEqual(ask(("urnthen", 5, 10, 10, 0, 1000), ("urnthen", 3, 1, 2, 1, 1), ("urnthen", 3, 1, 2, 1, 0), ("urnthen", 0, 7, 2, 0, 9),
                             ("urnthen", 3, 0, 2, 0, 9), ("urnthen", 3, 0, 2, 1, 9)),
                         [[0, 2510, 1], [0, 4, 1], [0, 2, 1], [0, 7, 1], [0, 0, 1], [0, 29, 1]])


class OverAllRows(unittest.TestCase):
    def test_chance_and_two(self):
        for more, *balls in URNS:
            for i in (0, 1):
                self.assertEqual(last(("urnchance", more, *balls, i)), counting.told(counting.over_urn(more, balls, 1, lambda row: row == (i,))))
                for j in (0, 1):
                    self.assertEqual(last(("urntwo", more, *balls, i, j)),
                                     counting.told(counting.over_urn(more, balls, 2, lambda row: row == (i, j))))

    def test_rows_in_whatever_order(self):
        for urn in URNS:
            for many in (3, 6):
                heavy = dict(counting.urn_rows(urn[0], urn[1:], many))
                for row in product((0, 1), repeat=many):
                    found = last(row_call(urn, row))
                    self.assertEqual(found, counting.told(Fraction(heavy[row], sum(heavy.values()))))
            one_order = last(row_call(urn, (0, 0, 1, 1)))
            for row in permutations((0, 0, 1, 1)):
                self.assertEqual(last(row_call(urn, row)), one_order)

    def test_so_many_of_a_colour(self):
        for more, *balls in URNS:
            for draws in (0, 1, 2, 3, 7, 8):
                found = list(counting.urn_rows(more, balls, draws))
                every_row = sum(heavy for row, heavy in found)
                for colour in (0, 1):
                    numbers = [sum(heavy for row, heavy in found if row.count(colour) == times) for times in range(draws + 1)]
                    with self.subTest(more=more, balls=balls, colour=colour, draws=draws):
                        self.assertEqual(ask(("urnall", more, *balls, colour, draws), ("urnlikeliest", more, *balls, colour, draws)),
                                         [[draws + 1] + numbers, [counting.first_greatest(numbers)]])
                        self.assertEqual(ask(*[("urnjust", more, *balls, colour, draws, times) for times in range(draws + 2)]),
                                         [counting.told(Fraction(number, every_row)) for number in numbers + [0]])
                        if colour == 0:
                            self.assertEqual(ask(*[("urncounts", more, *balls, times, draws - times, 5, 5) for times in range(draws + 1)]),
                                             [counting.told(Fraction(number, every_row)) for number in numbers])
                        mean = Fraction(sum(times * number for times, number in enumerate(numbers)), every_row)
                        self.assertEqual(ask(("urnmean", more, *balls, colour, draws), ("urnthen", more, *balls, colour, draws)),
                                         [counting.told(mean), counting.told(balls[colour] + more * mean)])
                one = sum(heavy for row, heavy in found if len(set(row)) < 2)
                self.assertEqual(last(("urnone", more, *balls, draws)), counting.told(Fraction(one, every_row)))

    def test_a_thousand_draws_one_behind_another(self):
        for more, *balls in URNS:
            for colour in (0, 1):
                drawn, there = Fraction(0), Fraction(balls[colour])
                for draws in range(1000):
                    likely = there / (sum(balls) + more * draws)
                    drawn += likely
                    there += more * likely
                self.assertEqual(ask(("urnmean", more, *balls, colour, 1000), ("urnthen", more, *balls, colour, 1000)),
                                 [counting.told(drawn), counting.told(there)])

    def test_from_one_of_each_all_numbers_are_as_likely(self):
        for draws in range(9):
            self.assertEqual(last(("urnall", 1, 1, 1, 0, draws)), [draws + 1] + [factorial(draws)] * (draws + 1))
            for times in range(draws + 1):
                self.assertEqual(last(("urnjust", 1, 1, 1, 1, draws, times)), [0, 1, draws + 1])

    def test_one_colour_drawn_is_no_less_likely_the_next(self):
        for urn in URNS:
            for colour in (0, 1):
                two, one = [Fraction(*answer[1:]) for answer in ask(("urntwo", *urn, colour, colour), ("urnchance", *urn, colour))]
                self.assertGreaterEqual(two, one * one)


if __name__ == "__main__":
    unittest.main()
