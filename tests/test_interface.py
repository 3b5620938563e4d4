import unittest

from albumwhole.album import answers
from asking import GREATEST, NUMBERS, SAMPLES, ask, everything, has, kinds, laid, last, taken_apart


class Layout(unittest.TestCase):
    def test_counts_stand_before_the_answers(self):
        self.assertEqual(answers([0]), [1, 0])
        self.assertEqual(answers([0, 1, 20, 1, 21]), [1, 0, 1, 0, 1, -22])
        self.assertEqual(answers([0, 1, 1, 1, 2, 6, 0, 20, 1]), [1, 0, 1, 0, 1, 1, 3, 0, 7, 2, 3, 2, 0, 0])
        self.assertEqual(answers([0, 1, 3, 29, 1, 30, 10, 11]), [1, 0, 1, 0, 2, 0, 3, 1, 9, 1, 0, 1, -33])

    def test_calls_of_the_stages(self):
        self.assertEqual(answers([0, 1, 1, 1, 2, 35, 2, 34, 2, 1, 38, 2]), [1, 0, 1, 0, 1, 1, 4, 3, 0, 5, 4, 3, 0, 5, 9, 1, 1])
        self.assertEqual(answers([0, 49, 2, 1, 2, 0, 2, 45, 6, 0, 0, 0, 45, 5, 0, 0, 0]), [1, 0, 4, 3, 8, 4, 3, 1, -22, 1, -6])
        self.assertEqual(answers([0, 56, 5, 2, 3, 57, 5, 2, 3, 62, 5, 2, 0, 0]), [1, 0, 5, 4, 1, 6, 3, 0, 1, 1, 1, -33])

    def test_packet_and_would_take_all_their_numbers(self):
        self.assertEqual(answers([0, 1, 1, 5, 0, 0, 0, 0, 19]), [1, 0, 1, 0, 1, 0, 1, 1])
        self.assertEqual(answers([0, 1, 1, 1, 3, 33, 0, 1, 2, 19]), [1, 0, 1, 0, 1, 1, 3, 0, 1, 2, 1, 0])

    def test_samples_name_every_call(self):
        self.assertEqual([NUMBERS[call[0]] for call in SAMPLES], list(range(1, 67)))
        self.assertEqual(sorted(NUMBERS.values()), list(range(67)))

    def test_only_whole_numbers_come_back(self):
        told = answers([0] + laid(kinds(1, 20, 3) + SAMPLES))
        self.assertTrue(all(isinstance(number, int) and not isinstance(number, bool) for number in told))
        self.assertIsInstance(told, list)


class Begin(unittest.TestCase):
    def test_before_a_begin_all_else_is_refused(self):
        for call in SAMPLES:
            with self.subTest(call=call):
                self.assertEqual(answers(laid([call])), [1, -11])
                self.assertEqual(answers(laid([call, ("begin",), ("bought",)])), [1, -11, 1, 0, 1, 0])

    def test_eleven_goes_ahead_of_every_other_refusal(self):
        for call in SAMPLES:
            wrong = call[:1] + (GREATEST,) * (len(call) - 1)
            with self.subTest(call=wrong):
                self.assertEqual(answers(laid([wrong])), [1, -11])

    def test_calls_before_a_begin_change_nothing(self):
        told = answers(laid([("kind", 5), ("packet", 0, 0, 0, 0), ("begin",), ("told", 0), ("bought",)]))
        self.assertEqual(taken_apart(told), [[-11], [-11], [0], [0], [0]])

    def test_a_begin_that_comes_again_makes_all_new(self):
        found = ask(*kinds(4, 5), ("packet", 0, 0, 0, 1), ("got", 1, 1), ("begin",), ("told", 0), ("told", 1),
                    ("bought",), ("squares",), ("kind", 7), ("told", 0), ("told", 1), ("chance", 0))
        self.assertEqual(found[4:], [[0], [0], [0], [0], [-6], [0], [1, 0], [1, 0], [0, 1, 1]])

    def test_two_begins_at_once(self):
        self.assertEqual(answers([0, 0, 19]), [1, 0, 1, 0, 1, 0])


class StagesChangeNothing(unittest.TestCase):
    def test_answered_or_refused(self):
        weights = (1, 3, 20)
        ahead = kinds(*weights) + has(0, 2, 0, 1) + has(1, 0, 3) + (("packet", 1, 0, 0, 2),)
        shown = everything(weights) + (("swaps",), ("mean", 0), ("mean", 1), ("allnumbers", 3))
        before = ask(*ahead, *shown)[len(ahead):]
        for call in SAMPLES[20:]:
            wrong = call[:1] + (GREATEST,) * (len(call) - 1)
            none = call[:1] + (0,) * (len(call) - 1)
            with self.subTest(call=call):
                self.assertEqual(ask(*ahead, call, wrong, none, call, *shown)[len(ahead) + 4:], before)

    def test_urns_and_boxes_are_no_matter_of_the_album(self):
        calls = SAMPLES[44:]
        self.assertEqual((calls[0][0], calls[-1][0]), ("urnchance", "boxcertain"))
        alone = ask(*calls)
        ahead = kinds(1, 3, 20, 4, 5, 6) + has(0, 2, 0, 1) + has(1, 0, 3)
        self.assertEqual(ask(*ahead, *calls)[len(ahead):], alone)
        self.assertTrue(all(answer[0] >= 0 for answer in alone))

    def test_each_call_stands_by_itself(self):
        calls = SAMPLES[20:]
        ahead = kinds(1, 3, 20)
        together = ask(*ahead, *calls)[len(ahead):]
        self.assertEqual([last(*ahead, call) for call in calls], together)


class Kept(unittest.TestCase):
    calls = laid((("begin",),) + kinds(1, 20, 7) + SAMPLES + (("packet", 1, 0, 1, 2), ("told", 1)))

    def test_the_list_handed_in_is_as_before(self):
        handed = list(self.calls)
        answers(handed)
        self.assertEqual(handed, self.calls)

    def test_the_answer_is_a_list_of_its_own(self):
        handed = [0]
        self.assertIsNot(answers(handed), handed)
        told = answers(list(self.calls))
        told.append(5)
        self.assertEqual(answers(list(self.calls)), told[:-1])

    def test_nothing_is_kept_from_one_time_to_the_next(self):
        once = answers(self.calls)
        self.assertEqual(answers(self.calls), once)
        self.assertEqual(answers([19]), [1, -11])
        self.assertEqual(answers([0, 20, 0]), [1, 0, 1, 0])
        self.assertEqual(answers(self.calls), once)


class Greatest(unittest.TestCase):
    # What a call of SAMPLES is answered if one argument, its first, its second and so on, is the greatest number.
    none = [0, 0, 1]
    each = {
        "kind": [-22], "got": [-2, -2], "give": [-2, -2], "swap": [-2, -2], "packet": [-2, -2, -2, -2], "mean": [-2],
        "allby": [-2, -22], "half": [-2], "sells": [-2, -2], "worth": [-2, -2], "lacking": [-2], "doubles": [-2],
        "fresh": [-2, -22], "told": [-2], "different": [-22], "alike": [-22], "pairs": [-22], "first": [-22],
        "evendifferent": [-22], "three": [-22], "products": [-22], "with_more": [-22, -22], "chance": [-2],
        "would": [-2, -2, -22],
        "justkinds": [-22, none], "allnumbers": [-22], "meankinds": [-22], "adds": [-22], "likeliest": [-22],
        "seen": [-2, -22], "evenkinds": [-22], "both": [-2, -2, -22], "needed": [-22, -22], "wouldkinds": [-2, -2, -22],
        "mostkinds": [[2]],
        "urnchance": [-22, -22, -22, -2], "urnrow": [-22, -22, -22, -22, -22, -22] + [[0, 1, 5]] * 4,
        "urncounts": [-22, -22, -22, -22, -22] + [[0, 2, 5]] * 2, "urnjust": [-22, -22, -22, -2, -22, none],
        "urnall": [-22, -22, -22, -2, -22], "urntwo": [-22, -22, -22, -2, -2], "urnmean": [-22, -22, -22, -2, -22],
        "urnthen": [-22, -22, -22, -2, -22], "urnlikeliest": [-22, -22, -22, -2, -22], "urnone": [-22, -22, -22, -22],
        "boxjust": [-22, -22, -22, none], "boxall": [-22, -22, -22], "boxlikeliest": [-22, -22, -22],
        "boxmean": [-22, -22, -22], "boxspread": [-22, -22, -22], "boxatleast": [-22, -22, -22, none],
        "boxneeded": [-22, -22, -33, -22, -22], "boxkthat": [-22, -22, -33, -22], "boxkthmean": [-22, -22, -33],
        "boxswapped": [-22, -22, -22, none], "boxguess": [-22, -22, -22, -22], "boxcertain": [-22, -22, -33],
    }

    def expected(self, name, place):
        answer = self.each[name][place]
        return answer if isinstance(answer, list) else [answer]

    def test_all_arguments_of_the_greatest_number(self):
        for call in SAMPLES:
            if len(call) == 1:
                continue
            wrong = call[:1] + (GREATEST,) * (len(call) - 1)
            with self.subTest(call=wrong):
                self.assertEqual(last(*kinds(3, 4), wrong), self.expected(call[0], 0))

    def test_each_argument_by_itself(self):
        for call in SAMPLES:
            self.assertEqual(len(self.each.get(call[0], [])), len(call) - 1)
            for place in range(1, len(call)):
                wrong = call[:place] + (GREATEST,) + call[place + 1:]
                with self.subTest(call=wrong):
                    self.assertEqual(last(*kinds(3, 4), wrong), self.expected(call[0], place - 1))

    def test_a_hundred_and_twenty_calls(self):
        calls = kinds(1, 20, 1, 20, 3, 20) + (("half", 0), ("three", 10), ("allby", 1, 20)) * 37 + (("mean", 0), ("told", 1))
        self.assertEqual(len(calls), 119)
        found = ask(*calls)
        self.assertEqual(len(found), 119)
        self.assertEqual(found[6:9] * 37, found[6:117])
        self.assertEqual(found[-1], [6, 0, 0, 0, 0, 0, 0])

    def test_a_hundred_and_twenty_of_the_longest(self):
        found = ask(*([("packet", 0, 0, 0, 0)] * 119))
        self.assertEqual(found, [[-2]] * 119)
        found = ask(*([("urnrow", 1, 1, 1, 6, 0, 0, 0, 0, 0, 0)] * 119))
        self.assertEqual(found, [[0, 1, 7]] * 119)

    def test_a_hundred_and_twenty_of_the_heaviest(self):
        ahead = kinds(20, 19, 17, 13, 11, 7)
        for call in (("allnumbers", 12), ("needed", 100, 1), ("boxneeded", 24, 12, 12, 1, 1), ("urnall", 5, 10, 9, 0, 8)):
            found = ask(*ahead, *([call] * 113))[6:]
            self.assertEqual(found, [last(*ahead, call)] * 113)


if __name__ == "__main__":
    unittest.main()
