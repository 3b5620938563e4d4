import unittest

from albumwhole.album import answers
from asking import GREATEST, NUMBERS, SAMPLES, ask, kinds, laid, last, taken_apart


class Layout(unittest.TestCase):
    def test_counts_stand_before_the_answers(self):
        self.assertEqual(answers([0]), [1, 0])
        self.assertEqual(answers([0, 1, 20, 1, 21]), [1, 0, 1, 0, 1, -22])
        self.assertEqual(answers([0, 1, 1, 1, 2, 6, 0, 20, 1]), [1, 0, 1, 0, 1, 1, 3, 0, 7, 2, 3, 2, 0, 0])
        self.assertEqual(answers([0, 1, 3, 29, 1, 30, 10, 11]), [1, 0, 1, 0, 2, 0, 3, 1, 9, 1, 0, 1, -33])

    def test_packet_and_would_take_all_their_numbers(self):
        self.assertEqual(answers([0, 1, 1, 5, 0, 0, 0, 0, 19]), [1, 0, 1, 0, 1, 0, 1, 1])
        self.assertEqual(answers([0, 1, 1, 1, 3, 33, 0, 1, 2, 19]), [1, 0, 1, 0, 1, 1, 3, 0, 1, 2, 1, 0])

    def test_samples_name_every_call(self):
        self.assertEqual([NUMBERS[call[0]] for call in SAMPLES], list(range(1, 34)))

    def test_only_whole_numbers_come_back(self):
        told = answers([0] + laid(kinds(1, 20, 3) + SAMPLES))
        self.assertTrue(all(isinstance(number, int) and not isinstance(number, bool) for number in told))
        self.assertIsInstance(told, list)


class Begin(unittest.TestCase):
    def test_before_a_begin_all_else_is_refused(self):
        for call in SAMPLES:
            with self.subTest(call=call):
                self.assertEqual(answers(laid([call])), [1, -11])
                self.assertEqual(answers(laid([call, ("begin",), ("bought",)])), [1, -11, 1, 0, 1, 0])

    def test_eleven_goes_ahead_of_every_other_refusal(self):
        for call in SAMPLES:
            wrong = call[:1] + (GREATEST,) * (len(call) - 1)
            with self.subTest(call=wrong):
                self.assertEqual(answers(laid([wrong])), [1, -11])

    def test_calls_before_a_begin_change_nothing(self):
        told = answers(laid([("kind", 5), ("packet", 0, 0, 0, 0), ("begin",), ("told", 0), ("bought",)]))
        self.assertEqual(taken_apart(told), [[-11], [-11], [0], [0], [0]])

    def test_a_begin_that_comes_again_makes_all_new(self):
        found = ask(*kinds(4, 5), ("packet", 0, 0, 0, 1), ("got", 1, 1), ("begin",), ("told", 0), ("told", 1),
                    ("bought",), ("squares",), ("kind", 7), ("told", 0), ("told", 1), ("chance", 0))
        self.assertEqual(found[4:], [[0], [0], [0], [0], [-6], [0], [1, 0], [1, 0], [0, 1, 1]])

    def test_two_begins_at_once(self):
        self.assertEqual(answers([0, 0, 19]), [1, 0, 1, 0, 1, 0])


class CallsOfOtherStages(unittest.TestCase):
    # How many arguments the interface gives the calls 34 to 66.
    kinds_calls = (2, 1, 1, 1, 1, 2, 1, 3, 2, 3, 1)
    urn_calls = (4, 10, 7, 6, 5, 5, 5, 5, 5, 4)
    box_calls = (4, 3, 3, 3, 3, 4, 5, 4, 3, 4, 4, 3)

    def test_before_a_begin_they_are_refused_too(self):
        counts = self.kinds_calls + self.urn_calls + self.box_calls
        self.assertEqual(len(counts), 33)
        for number, count in enumerate(counts, start=34):
            with self.subTest(number=number):
                self.assertEqual(answers([number] + [GREATEST] * count + [0, 19]), [1, -11, 1, 0, 1, 0])


class Kept(unittest.TestCase):
    calls = laid((("begin",),) + kinds(1, 20, 7) + SAMPLES + (("packet", 1, 0, 1, 2), ("told", 1)))

    def test_the_list_handed_in_is_as_before(self):
        handed = list(self.calls)
        answers(handed)
        self.assertEqual(handed, self.calls)

    def test_the_answer_is_a_list_of_its_own(self):
        handed = [0]
        self.assertIsNot(answers(handed), handed)
        told = answers(list(self.calls))
        told.append(5)
        self.assertEqual(answers(list(self.calls)), told[:-1])

    def test_nothing_is_kept_from_one_time_to_the_next(self):
        once = answers(self.calls)
        self.assertEqual(answers(self.calls), once)
        self.assertEqual(answers([19]), [1, -11])
        self.assertEqual(answers([0, 20, 0]), [1, 0, 1, 0])
        self.assertEqual(answers(self.calls), once)


class Greatest(unittest.TestCase):
    refusals = {
        "kind": -22, "got": -2, "give": -2, "swap": -2, "packet": -2, "mean": -2, "allby": -2, "half": -2,
        "sells": -2, "worth": -2, "lacking": -2, "doubles": -2, "fresh": -2, "told": -2, "different": -22,
        "alike": -22, "pairs": -22, "first": -22, "evendifferent": -22, "three": -22, "products": -22,
        "with_more": -22, "chance": -2, "would": -2,
    }

    def test_arguments_of_the_greatest_number(self):
        for call in SAMPLES:
            if len(call) == 1:
                continue
            wrong = call[:1] + (GREATEST,) * (len(call) - 1)
            with self.subTest(call=wrong):
                self.assertEqual(last(*kinds(3, 4), wrong), [self.refusals[call[0]]])

    def test_each_argument_by_itself(self):
        for call in SAMPLES:
            for place in range(1, len(call)):
                wrong = call[:place] + (GREATEST,) + call[place + 1:]
                with self.subTest(call=wrong):
                    collector_or_kind = (call[0] in ("got", "give", "swap", "packet", "sells", "worth", "chance")
                                         or (call[0] in ("allby", "fresh", "mean", "half", "lacking", "doubles", "told")
                                             and place == 1)
                                         or (call[0] == "would" and place < 3))
                    self.assertEqual(last(*kinds(3, 4), wrong), [-2 if collector_or_kind else -22])

    def test_a_hundred_and_twenty_calls(self):
        calls = kinds(1, 20, 1, 20, 3, 20) + (("half", 0), ("three", 10), ("allby", 1, 20)) * 37 + (("mean", 0), ("told", 1))
        self.assertEqual(len(calls), 119)
        found = ask(*calls)
        self.assertEqual(len(found), 119)
        self.assertEqual(found[6:9] * 37, found[6:117])
        self.assertEqual(found[-1], [6, 0, 0, 0, 0, 0, 0])

    def test_a_hundred_and_twenty_of_the_longest(self):
        found = ask(*([("packet", 0, 0, 0, 0)] * 119))
        self.assertEqual(found, [[-2]] * 119)


if __name__ == "__main__":
    unittest.main()
