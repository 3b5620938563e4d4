import unittest

from asking import GREATEST, ask, everything, has, kinds, last


class Kind(unittest.TestCase):
    def test_numbers_rise_from_none(self):
        self.assertEqual(ask(*kinds(1, 20, 7, 7, 2, 3)), [[0], [1], [2], [3], [4], [5]])

    def test_weight_bounds(self):
        self.assertEqual(ask(("kind", 0), ("kind", 1), ("kind", 20), ("kind", 21), ("kind", GREATEST), ("told", 0)),
                         [[-22], [0], [1], [-22], [-22], [2, 0, 0]])

    def test_a_seventh_is_too_many(self):
        six = kinds(1, 2, 3, 4, 5, 6)
        self.assertEqual(last(*six, ("kind", 7)), [-28])
        self.assertEqual(last(*six, ("kind", 0)), [-22])
        self.assertEqual(last(*six, ("kind", 21)), [-22])
        self.assertEqual(last(*six, ("kind", 7), ("told", 1)), [6, 0, 0, 0, 0, 0, 0])
        self.assertEqual(last(*six, ("kind", 7), ("squares",)), [91])

    def test_the_weight_is_kept(self):
        self.assertEqual(ask(*kinds(3, 5), ("chance", 0), ("chance", 1))[2:], [[0, 3, 8], [0, 5, 8]])

    def test_a_kind_that_comes_later_is_lacking(self):
        self.assertEqual(ask(("kind", 1), ("got", 0, 0), ("kind", 2), ("told", 0), ("lacking", 0))[3:], [[2, 1, 0], [1, 1]])


class Got(unittest.TestCase):
    def test_one_more_for_that_collector_alone(self):
        found = ask(*kinds(1, 1), ("got", 0, 1), ("got", 0, 1), ("got", 1, 0), ("told", 0), ("told", 1))
        self.assertEqual(found[2:], [[1], [2], [1], [2, 0, 2], [2, 1, 0]])

    def test_no_such(self):
        self.assertEqual(last(*kinds(1), ("got", 2, 0)), [-2])
        self.assertEqual(last(*kinds(1), ("got", 0, 1)), [-2])
        self.assertEqual(last(("got", 0, 0)), [-2])

    def test_a_hundred(self):
        found = ask(*kinds(1), *has(0, 99), ("got", 0, 0), ("got", 0, 0), ("told", 0), ("got", 1, 0), ("got", 2, 0))
        self.assertEqual(found[-5:], [[100], [-28], [1, 100], [1], [-2]])

    def test_a_hundred_of_one_leaves_room_for_another(self):
        self.assertEqual(last(*kinds(1, 1), *has(0, 100), ("got", 0, 1)), [1])


class Give(unittest.TestCase):
    def test_it_goes_over(self):
        found = ask(*kinds(1, 2), *has(0, 2, 1), ("give", 0, 0), ("told", 0), ("told", 1), ("give", 0, 0), ("give", 0, 0),
                    ("give", 1, 0), ("told", 0), ("told", 1))
        self.assertEqual(found[5:], [[1], [2, 1, 1], [2, 1, 0], [0], [-12], [1], [2, 1, 1], [2, 1, 0]])

    def test_the_giver_is_told_not_the_other(self):
        self.assertEqual(last(*kinds(1), *has(0, 5), *has(1, 1), ("give", 0, 0)), [4])
        self.assertEqual(last(*kinds(1), *has(0, 5), *has(1, 1), ("give", 1, 0)), [0])

    def test_refusals_in_order(self):
        self.assertEqual(last(("give", 0, 0)), [-2])
        self.assertEqual(last(*kinds(1), ("give", 2, 0)), [-2])
        self.assertEqual(last(*kinds(1), ("give", 0, 1)), [-2])
        self.assertEqual(last(*kinds(1), ("give", 0, 0)), [-12])
        full = kinds(1) + has(1, 100)
        self.assertEqual(last(*full, ("give", 0, 0)), [-12])
        self.assertEqual(ask(*full, ("got", 0, 0), ("give", 0, 0), ("told", 0), ("told", 1))[-3:],
                         [[-28], [1, 1], [1, 100]])
        self.assertEqual(last(*full, ("got", 0, 0), ("give", 2, 0)), [-2])

    def test_the_hundredth_may_be_given(self):
        found = ask(*kinds(1), *has(1, 99), ("got", 0, 0), ("give", 0, 0), ("told", 0), ("told", 1))
        self.assertEqual(found[-3:], [[0], [1, 0], [1, 100]])


class Packet(unittest.TestCase):
    def test_three_different(self):
        found = ask(*kinds(1, 2, 3, 4), ("packet", 1, 3, 0, 1), ("told", 1), ("told", 0), ("bought",))
        self.assertEqual(found[4:], [[1], [4, 1, 1, 0, 1], [4, 0, 0, 0, 0], [1]])

    def test_three_alike(self):
        found = ask(*kinds(1, 2, 3), ("packet", 0, 1, 1, 1), ("told", 0), ("doubles", 0), ("lacking", 0))
        self.assertEqual(found[3:], [[2], [3, 0, 3, 0], [2], [2, 0, 2]])

    def test_two_alike(self):
        self.assertEqual(ask(*kinds(1, 2), ("packet", 0, 1, 0, 1), ("told", 0))[2:], [[0], [2, 1, 2]])

    def test_no_such(self):
        for call in (("packet", 2, 0, 0, 0), ("packet", 0, 1, 0, 0), ("packet", 0, 0, 1, 0), ("packet", 0, 0, 0, 1)):
            with self.subTest(call=call):
                self.assertEqual(ask(*kinds(1), call, ("told", 0), ("bought",))[1:], [[-2], [1, 0], [0]])
                self.assertEqual(last(*kinds(1), *has(0, 98), call), [-2])

    def test_ninety_seven_has_room_and_ninety_eight_has_not(self):
        found = ask(*kinds(1, 1), *has(0, 97), ("bought",), ("packet", 0, 0, 0, 0), ("told", 0), ("bought",))
        self.assertEqual(found[-4:], [[32], [1], [2, 100, 0], [33]])
        for many in (98, 99, 100):
            for call in (("packet", 0, 0, 1, 1), ("packet", 0, 1, 0, 1), ("packet", 0, 1, 1, 0), ("packet", 0, 0, 0, 0)):
                with self.subTest(many=many, call=call):
                    found = ask(*kinds(1, 1), *has(0, many), ("bought",), call, ("told", 0), ("bought",))
                    self.assertEqual(found[-3:-1], [[-28], [2, many, 0]])
                    self.assertEqual(found[-1], found[-4])

    def test_what_the_other_has_is_no_matter(self):
        self.assertEqual(last(*kinds(1), *has(1, 100), ("packet", 0, 0, 0, 0)), [0])

    def test_a_full_kind_that_is_not_in_it_is_no_matter(self):
        self.assertEqual(last(*kinds(1, 1), *has(0, 100), ("packet", 0, 1, 1, 1)), [0])

    def test_got_and_give_are_no_packets(self):
        self.assertEqual(last(*kinds(1), ("got", 0, 0), ("give", 0, 0), ("bought",)), [0])


class Told(unittest.TestCase):
    def test_no_kinds(self):
        self.assertEqual(ask(("told", 0), ("told", 1), ("lacking", 0), ("lacking", 1), ("doubles", 0), ("doubles", 1), ("bought",)),
                         [[0]] * 7)

    def test_no_such_collector(self):
        for name in ("told", "lacking", "doubles"):
            for collector in (2, GREATEST):
                self.assertEqual(last((name, collector)), [-2])
                self.assertEqual(last(*kinds(1), (name, collector)), [-2])

    def test_lacking_rises(self):
        self.assertEqual(last(*kinds(1, 1, 1, 1, 1, 1), *has(1, 0, 1, 0, 0, 2, 0), ("lacking", 1)), [4, 0, 2, 3, 5])
        self.assertEqual(last(*kinds(1, 1), *has(1, 1, 3), ("lacking", 1)), [0])

    def test_doubles_are_all_beyond_the_first(self):
        self.assertEqual(last(*kinds(1, 1, 1, 1), *has(0, 0, 1, 2, 5), ("doubles", 0)), [5])
        self.assertEqual(last(*kinds(1, 1, 1, 1), *has(0, 0, 1, 2, 5), ("doubles", 1)), [0])
        self.assertEqual(last(*kinds(1, 1), *has(0, 100, 2), ("doubles", 0)), [100])

    def test_what_is_told_is_a_copy(self):
        self.assertEqual(ask(*kinds(1), ("told", 0), ("got", 0, 0), ("told", 0))[1:], [[1, 0], [1], [1, 1]])


class RefusedChangesNothing(unittest.TestCase):
    weights = (1, 2, 20, 5, 4, 3)

    def test_all_refusals_of_calls_that_change(self):
        ahead = kinds(*self.weights) + has(0, 0, 0, 98, 1) + has(1, 0, 0, 1, 2)
        shown = everything(self.weights)
        before = ask(*ahead, *shown)[len(ahead):]
        refused = {
            ("kind", 0): -22, ("kind", 21): -22, ("kind", 5): -28, ("got", 2, 0): -2, ("got", 0, 6): -2,
            ("give", 2, 0): -2, ("give", 0, 6): -2, ("give", 0, 0): -12, ("packet", 2, 0, 1, 2): -2,
            ("packet", 0, 0, 1, 6): -2, ("packet", 0, 0, 1, 2): -28, ("packet", 0, 2, 1, 0): -28,
            ("swap", 6, 0): -2, ("swap", 0, 6): -2, ("swap", 2, 3): -33, ("swap", 0, 1): -33,
        }
        for call, number in refused.items():
            with self.subTest(call=call):
                found = ask(*ahead, call, *shown)[len(ahead):]
                self.assertEqual(found, [[number]] + before)

    def test_full_refusals(self):
        ahead = kinds(*self.weights) + has(0, 100) + has(1, 1)
        shown = everything(self.weights)
        before = ask(*ahead, *shown)[len(ahead):]
        for call in (("got", 0, 0), ("give", 1, 0), ("packet", 0, 0, 1, 2), ("packet", 0, 1, 2, 0)):
            with self.subTest(call=call):
                self.assertEqual(ask(*ahead, call, *shown)[len(ahead):], [[-28]] + before)


if __name__ == "__main__":
    unittest.main()
